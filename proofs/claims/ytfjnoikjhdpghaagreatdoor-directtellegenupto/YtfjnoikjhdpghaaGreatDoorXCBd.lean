/- Contracts that the proof leans on. -/
import Derived.Test.YtfjnoikjhdpghaaGreatDoorXCBc
import Derived.Test.YtfjnoikjhdpghaaGreatDoorXMFc
import Derived.Shelf.Strings.SlTrimAscii
import Derived.Lib.CutLaws
namespace Go.Proofs.YtfjnoikjhdpghaaGreatDoor
open Go.RowKit
set_option linter.unusedVariables false
set_option linter.unusedSimpArgs false
set_option maxHeartbeats 8000000
set_option maxRecDepth 10000
theorem AN (b:Nat) (x:Int) (y L:Nat) (w:World) (h:bU w b x y L) :
  Calls Tryz.prog 43 #[.pointer (some ⟨b,0,none⟩)] w fun e w'=>e=.returned (.pointer (some ⟨b,2,none⟩))/\w'=w:=by
 obtain ⟨h1,h2,h3,h4⟩:=h;obtain ⟨nb,vb,b1,b2,b3,b4⟩:=h2;rw [Int.natAbs_natCast] at b2;obtain ⟨bo,lb,cb,rfl,y1,y2,y3,y4,y5,y6⟩:=aL b2;have d1:=b1.c1;have hlb:((lb:Int)==0)=false:=beq_eq_false_iff_ne.2 (by omega);clear b1 b2 b3 b4 y1 y5 y6 h1 h3 h4;go_enter Tryz.func43,Tryz.ntmps43
 go_wp2;go_ret;exact ⟨rfl,rfl⟩
theorem bU.keep0 {w w':World} {b L:Nat} {x:Int} {y:Nat} (h:bU w b x y L) (hg:w.grownBy w' none):bU w' b x y L :=
 ⟨h.1.keep0 hg,h.2.1.keep0 hg,h.2.2⟩
theorem bU.mono {w:World} {b L L':Nat} {x:Int} {y:Nat} (h:bU w b x y L) (hl:L<=L'):bU w b x y L':=⟨h.1.mono hl,h.2.1.mono hl,h.2.2⟩
theorem nT {w w1:World} {r:Option Nat} (h:w.grownBy w1 r):w.grownBy w1.drew r:=⟨h.os,h.tape,h.output,h.size,h.block⟩
theorem vX {l:List UInt8} (h:∀ c∈l,kP c=true) (c:UInt8) (hc:c∈l):48<=c.toNat/\c.toNat<=57:=by
 have:=h c hc;unfold kP at this;rw [Bool.and_eq_true,decide_eq_true_eq,decide_eq_true_eq] at this;exact this
theorem sS (s:ByteArray) (i:Nat) (h:i<s.size):s[i]∈s.data.toList:=by
 have:s[i]=s.data.toList[i]'(by simpa using h):=rfl;rw [this];exact List.getElem_mem _
theorem xJ (w:World):aT w (.slice none 0 0) 0 0:=⟨[],Ws.nil w,rfl,rfl,Nat.le_refl _⟩
theorem iM {w:World} {v:Value} {n L:Nat} (h:aT w v n L):∃ ao l cap,v=.slice ao l cap/\l<=cap/\cap<=9223372036854775807:=by
 obtain ⟨xs,x1,x2,x3,x4⟩:=h;obtain ⟨ao,ca,rfl,h1,h2,h3⟩:=x1.open;exact ⟨ao,xs.length,ca,rfl,h1,by unfold maxLen at h2;omega⟩
def SetR (w:World) (s:ByteArray) (rv iv:Value) (wr:World):Prop :=
 ∃ i:Nat,i<=s.size/\iv=.int .i64 i/\aT wr rv (aZ (s.data.toList.take i)) (3*i)/\w.grownBy wr none/\bD w rv
def SetE (w:World) (b off:Nat) (s:ByteArray) (e:Ending) (w':World):Prop:=e=.returned (.tuple #[.pointer (some ⟨b,off,none⟩),.bool true])/\fM w w' b off/\aA w' b off (aZ s.data.toList:Nat) (3*s.size)/\dV w w' b off
theorem dQ (b off:Nat) (neg0:Bool) (v0:Value) (s:ByteArray) (w:World) (hB:fW w b off neg0 v0) (h0:0<s.size) (hs:s.size<=1000000000000) (hd:∀ c∈s.data.toList,kP c=true) :
  Calls Tryz.prog 37 #[.pointer (some ⟨b,off,none⟩),.string s,.int .i64 10] w fun e w'=>SetE w b off s e w':=by
 have HB:=ab hB;have hb:=hB.lt;have HD:=ab hd;obtain ⟨f1,f2⟩:=vX hd s[0] (sS s 0 h0);have g1:((s[0].toNat:Int)==45)=false:=by simp;omega
 have g2:((s[0].toNat:Int)==43)=false:=by simp;omega
 have hne:((s.size:Int)==0)=false:=by simp;intro e;rw [e] at h0;simp at h0
 clear hd hB f1 f2;go_enter Tryz.func37,Tryz.ntmps37
 go_wp2;clear g1 g2 hne;go_loopw [9,10] (fun rv iv wr=>Hid (SetR w s rv iv wr)) (fun _ iv _=>s.size-(intOf iv).toNat)
 case atStart=>exact ⟨0,by omega,rfl,xJ _,ae _ _,fun k hk=>by simp [az] at hk⟩
 case round =>
  obtain ⟨i,hi,rfl,h1,h2,h3⟩:=hrel.out;obtain ⟨ao,l,cap,rfl,hc1,hc2⟩:=iM h1;have H1:=ab h1;have H2:=ab h2;have H3:=ab h3;clear h1 h2 h3 hrel;by_cases hlt:i<s.size
  ·obtain ⟨d1,d2⟩:=vX HD.out s[i] (sS s i hlt);have HTB:=ab (rz s i hlt);obtain ⟨c,hc⟩:∃ c,c=s[i].toNat:=⟨_,rfl⟩;have d1':(48:Int)<=(s[i].toNat:Int):=by omega
   have d2':(s[i].toNat:Int)<=57:=by omega
   have HC:=ab hc;clear hc;go_wp2_with fail;refine (eN _ _ ?p1 ?p2).mono ?_
   case p1=>omega
   case p2=>omega
   rintro e w1 ⟨v1,rfl,k1,k2,k3⟩;obtain ⟨ao1,l1,cap1,rfl,hd1,hd2⟩:=iM k1;have K1:=ab k1;have K2:=ab k2;clear k1 k2 k3;go_wp2_with fail;refine (xI _ _ (aZ (s.data.toList.take i)) 10 (3*i) 2 w1 (H1.out.keep0 K2.out) (by simpa using K1.out) (by omega)).mono ?_;rintro e w2 ⟨v2,rfl,m1,m2,m3⟩;obtain ⟨ao2,l2,cap2,rfl,he1,he2⟩:=iM m1;have M1:=ab m1;have M2:=ab (aa K2.out m2);clear m1 m2 m3;go_wp2_with fail;refine (eN _ _ ?q1 ?q2).mono ?_
   case q1=>omega
   case q2=>omega
   rintro e w3 ⟨v3,rfl,n1,n2,n3⟩;obtain ⟨ao3,l3,cap3,rfl,hf1,hf2⟩:=iM n1;have N1:=ab n1;have N2:=ab (aa M2.out n2);have M1':=ab (M1.out.keep0 n2);clear n1 n2 n3;go_wp2_with fail;refine (xi _ _ _ _ (3*i+2) 2 w3 M1'.out N1.out (by omega) (by omega)).mono ?_;rintro e w4 ⟨v4,rfl,p1,p2,p3⟩;obtain ⟨ao4,l4,cap4,rfl,hg1,hg2⟩:=iM p1;have P1:=ab p1;have P2:=ab (aa N2.out p2);have P3:=ab (show bD w (Value.slice ao4 l4 cap4) from fun k hk=>Nat.le_trans (aa H2.out N2.out).size (p3 k hk));clear p1 p2 p3;go_wp2;go_roundw
   case rel =>
    refine ⟨i+1,by omega,by go_num,?_,aa H2.out P2.out,P3.out⟩;rw [HTB.out,oN];have hP:=P1.out.mono (L':=3*(i+1)) (by omega);have e:((s[i].toNat:Int)-48).toNat=s[i].toNat-48:=by omega
    first
     | exact hP
     | (rw [e] at hP;exact hP)
   case measure=>simp [intOf];omega
  ·have ht:s.data.toList.take i=s.data.toList:=List.take_of_length_le (by have:=Lib.size_eq s;omega);have hi2:i=s.size:=by omega
   have HT:=ab ht;clear ht;go_wp2_with fail;refine (fR b off neg0 v0 _ _ _ _ wr (HB.out.keep0 H2.out) H1.out (fQ (w1:=w) H3.out hb)).mono ?_;rintro e w2 ⟨rfl,a1,a2,a5⟩;have A1:=ab a1;have A2:=ab a2;have A5:=ab a5;clear a1 a2 a5;go_wp2;refine bodyPost_ret (v:=.tuple #[.pointer (some ⟨b,off,none⟩),.bool true]) (by simp [results,Tryz.results37,go_sem]) rfl ?_;refine ⟨rfl,(fM.of_gr H2.out b off hb).trans A1.out,?_,dV.of A5.out H3.out (Nat.le_refl _)⟩;have h:=A2.out;rw [HT.out,hi2] at h;exact h
theorem vV (b off:Nat) (z:Int) (L:Nat) (w:World) (h:aA w b off z L) :
  Calls Tryz.prog 28 #[.pointer (some ⟨b,off,none⟩)] w fun e w'=>e=.returned (.int .i64 (sn z))/\w'=w:=by
 obtain ⟨neg,v,h1,h2,h3,h4⟩:=h;obtain ⟨ao,l,ca,rfl,hl,_,hc1,hc2,_,_⟩:=aL h2;have c0:=h1.c0;have c1:=h1.c1;clear h1 h2 h4;by_cases hz:z=0
 ·have hl0:l=0:=hl.2 (by omega);subst hl0;clear hl;go_enter Tryz.func28,Tryz.ntmps28
  go_wp2;go_ret;exact ⟨by simp [sn,hz],rfl⟩
 ·have hl0:0<l:=by
   rcases Nat.eq_zero_or_pos l with e | e
   ·have:=hl.1 e;omega
   ·exact e
  have hl1:((l:Int)==0)=false:=by simp;omega
  clear hl;by_cases hn:z<0
  ·obtain rfl:neg=true:=by rw [h3];simp [hn]
   clear h3;go_enter Tryz.func28,Tryz.ntmps28
   go_wp2;go_ret;exact ⟨by simp [sn,hn],rfl⟩
  ·obtain rfl:neg=false:=by rw [h3];simp [hn]
   clear h3;go_enter Tryz.func28,Tryz.ntmps28
   go_wp2;go_ret;refine ⟨?_,rfl⟩;have hp:0<z:=by omega
   simp [sn,hn,hp]
theorem pC (b:Nat) (z:Int) (L:Nat) (w:World) (h:aA w b 0 z L) :
  Calls Tryz.prog 9 #[.pointer (some ⟨b,0,none⟩)] w fun e w'=>e=.returned (.int .i64 (sn z))/\w'=w:=by
 have H:=ab h;clear h;go_enter Tryz.func9,Tryz.ntmps9
 go_wp2_with fail;refine (vV b 0 z L w H.out).mono ?_;rintro e w1 ⟨rfl,rfl⟩;go_wp2;go_ret;exact ⟨rfl,rfl⟩
theorem Bw {x:Int} {y:Nat} (h:Nat.gcd x.natAbs y=1):eW x y=x/\eO x y=y:=by
 unfold eW eO;rw [h];simp
theorem ur (b:Nat) (x:Int) (y L:Nat) (w:World) (h:bU w b x y L) (hL:L<=4000000000000) :
  Calls Tryz.prog 85 #[.pointer (some ⟨b,0,none⟩),.pointer (some ⟨b,0,none⟩)] w fun e w'=>e=.returned (.pointer (some ⟨b,0,none⟩))/\bG w w' b/\bU w' b x y (L+2):=by
 have H:=ab h;obtain ⟨n1,v1,b1,_⟩:=h.1;obtain ⟨n2,v2,b2,_⟩:=h.2.1;have B1:=ab b1;have B2:=ab b2;have hlow:=Bw h.2.2.2;have HLOW:=ab hlow;clear h b1 b2 hlow;go_enter Tryz.func85,Tryz.ntmps85
 go_wp2;go_region_with (first | (go_at_call 43;refine (AN b x y L _ (H.out.keep0 (aC _))).mono ?_;rintro e w1 ⟨rfl,rfl⟩) | (go_at_call 39;refine (dg b b 0 b 2 n1 n2 v1 v2 x y L _ (B1.out.keep0 (aC _)) (B2.out.keep0 (aC _)) (H.out.1.keep0 (aC _)) (H.out.2.1.keep0 (aC _)) H.out.2.2.1 hL).mono ?_;rintro e w2 ⟨rfl,a1,a2⟩))
 all_goals go_wp2
 all_goals go_ret
 all_goals rw [HLOW.out.1,HLOW.out.2] at a2
 all_goals exact ⟨rfl,(bG.of_gr (aC _)).trans a1,a2⟩
theorem nq (b:Nat) (x:Int) (y L:Nat) (w:World) (h:bU w b x y L) (hL:L<=4000000000000) :
  Calls Tryz.prog 40 #[.pointer (some ⟨b,0,none⟩),.pointer (some ⟨b,0,none⟩)] w fun e w'=>e=.returned (.pointer (some ⟨b,0,none⟩))/\bG w w' b/\bU w' b (-x) y (L+2):=by
 have H:=ab h;clear h;go_enter Tryz.func40,Tryz.ntmps40
 go_wp2_with fail;refine (ur b x y L w H.out hL).mono ?_;rintro e w1 ⟨rfl,a1,a2⟩;obtain ⟨n1,v1,b1,_⟩:=a2.1;have A1:=ab a1;have A2:=ab a2;have B1:=ab b1;clear a1 a2 b1;go_wp2;go_region_with (go_at_call 86;refine (pn b 0 b 0 n1 v1 x (L+2) _ (B1.out.keep0 (aC _)) (A2.out.1.keep0 (aC _)) (by omega)).mono ?_;rintro e w2 ⟨rfl,c1,c2,c3⟩)
 all_goals go_wp2
 all_goals go_ret
 all_goals refine ⟨rfl,A1.out.trans ((bG.of_gr (aC _)).trans (bG.of_put c1)),c2,?_,A2.out.2.2.1,by rw [Int.natAbs_neg];exact A2.out.2.2.2⟩
 all_goals refine (A2.out.2.1.keep0 (aC _)).keep c1 (.inr (.inr (by omega))) ?_
 all_goals (intro v hv e;obtain ⟨n2,v2,b2,b3,b4,b5⟩:=A2.out.2.1;have e2:=b2.c1;simp at e2 hv;rw [e2] at hv;exact b5 (by rw [Option.some.inj hv];exact e))
theorem js (c:UInt8):([48,49,50,51,52,53,54,55,56,57]:List UInt8).contains c=kP c:=by
 rw [Bool.eq_iff_iff];simp [kP,<- UInt8.toNat_inj];omega
theorem jt (c:UInt8):([48]:List UInt8).contains c=true↔c=48:=by simp
theorem vN (p:UInt8->Bool):∀ l:List UInt8,l.dropWhile p=[]↔∀ c∈l,p c=true
 | []=>by simp
 | a :: r=>by
  rw [List.dropWhile_cons];by_cases h:p a=true
  ·rw [if_pos h,vN p r];simp [h]
  ·rw [if_neg h];simp [h]
theorem xq (p:UInt8->Bool):∀ (l:List UInt8) (x:UInt8) (r:List UInt8),l.dropWhile p=x :: r->p x=false
 | [],x,r,h=>by simp at h
 | a :: t,x,r,h=>by
  rw [List.dropWhile_cons] at h;by_cases ha:p a=true
  ·rw [if_pos ha] at h;exact xq p t x r h
  ·rw [if_neg ha] at h;obtain ⟨rfl,_⟩:=List.cons.inj h;simpa using ha
theorem AS (p:UInt8->Bool):∀ (l:List UInt8) (c:UInt8),c∈l.dropWhile p->c∈l
 | [],c,h=>by simp at h
 | a :: t,c,h=>by
  rw [List.dropWhile_cons] at h;by_cases ha:p a=true
  ·rw [if_pos ha] at h;exact List.mem_cons_of_mem _ (AS p t c h)
  ·rw [if_neg ha] at h;exact h
theorem rC (l cs:List UInt8):Lib.trimS l cs=[]↔∀ c∈l,cs.contains c=true:=by
 unfold Lib.trimS Lib.trimLeftS Lib.trimRightS;rw [vN];constructor
 ·intro h;cases he:l.reverse.dropWhile (fun x=>cs.contains x) with
  | nil =>
   rw [vN] at he;exact fun c hc=>he c (by simpa using hc)
  | cons x r =>
   exfalso
   have h1:=xq _ _ _ _ he;have h2:=h x (by rw [he];simp);simp only [h1] at h2;exact absurd h2 (by simp)
 ·intro h c hc;rw [List.mem_reverse] at hc;exact h c (by simpa using AS _ _ _ hc)
theorem vj {l:List UInt8} (hd:∀ c∈l,kP c=true) (h:aZ l=0):∀ c∈l,([48]:List UInt8).contains c=true:=by
 induction l with
 | nil=>intro c hc;simp at hc
 | cons a r ih =>
  have e:=lk [a] r;simp only [List.singleton_append] at e;rw [h] at e;have h1:aZ [a]*10^r.length=0:=by omega
  have h2:aZ r=0:=by omega
  have h3:aZ [a]=0:=by
   rcases Nat.mul_eq_zero.1 h1 with h | h
   ·exact h
   ·have:=Nat.pow_pos (n:=r.length) (show 0<10 by decide);omega
  have h4:=(vX hd a (by simp)).1;intro c hc;rcases List.mem_cons.1 hc with rfl | hc
  ·rw [jt,<- UInt8.toNat_inj];simp [aZ] at h3;show c.toNat=48
   omega
  ·exact ih (fun c hc=>hd c (by simp [hc])) h2 c hc
theorem sM {l:List UInt8} (h:∀ c∈l,([48]:List UInt8).contains c=true):aZ l=0:=by
 induction l with
 | nil=>rfl
 | cons a r ih =>
  have e:=lk [a] r;simp only [List.singleton_append] at e;have h1:=(jt a).1 (h a (by simp));rw [e,ih (fun c hc=>h c (by simp [hc])),h1];have:aZ [(48:UInt8)]=0:=by decide
  rw [this];simp
theorem iF {s:ByteArray} (h:bZ s.data.toList=true):0<s.size:=by
 rw [Lib.size_eq];unfold bZ at h;cases hl:s.data.toList with
 | nil=>rw [hl] at h;simp at h
 | cons a r=>simp
theorem jT {w w':World} (h:Below w.heap.size w w'):w.grownBy w' none:=by
 obtain ⟨a,b,c,d,e⟩:=h;exact ⟨a,b,c,d,fun k hk _=>e k hk⟩
theorem tu {l:List UInt8} (h:l=[]):(⟨l.toArray⟩:ByteArray)=⟨#[]⟩:=by rw [h]
theorem oV {l:List UInt8} (h:l≠[]):(⟨l.toArray⟩:ByteArray).toList.isEmpty=false:=by
 rw [Lib.toList_data];cases l with
 | nil=>exact absurd rfl h
 | cons a r=>rfl
theorem aS (s:ByteArray) (w:World) (hs:s.size<=9223372036854775807) :
  Calls Tryz.prog 35 #[.string s] w fun e w'=>e=.returned (.bool (bZ s.data.toList))/\w.grownBy w' none:=by
 by_cases h0:s.data.toList=[]
 ·have he:s=⟨#[]⟩:=by
   rw [<- Lib.mk_data s,h0]
  subst he;go_enter Tryz.func35,Tryz.ntmps35
  go_wp2;go_ret;exact ⟨rfl,ae _ _⟩
 ·have hemp:s.toList.isEmpty=false:=by
   rw [Lib.toList_data];cases h:s.data.toList with
   | nil=>exact absurd h h0
   | cons a r=>rfl
  have hcon:=Any.strings_Trim_laid Tryz.lays160 (by kernel_rfl) s ⟨#[48,49,50,51,52,53,54,55,56,57]⟩ w hs (by decide) (ascii_of_all (by decide));change Calls Tryz.prog 36 _ _ (fun e w'=>e=.returned (.string ⟨(Lib.trimS s.data.toList [48,49,50,51,52,53,54,55,56,57]).toArray⟩)/\Below w.heap.size w w') at hcon
  have hn:=rC s.data.toList [48,49,50,51,52,53,54,55,56,57];have hall:bZ s.data.toList=s.data.toList.all kP:=by
   unfold bZ;cases h:s.data.toList with
   | nil=>exact absurd h h0
   | cons a r=>rfl
  by_cases ha:s.data.toList.all kP=true
  ·have hr:=tu (hn.2 (fun c hc=>by rw [js];exact List.all_eq_true.1 ha c hc));rw [hr] at hcon;rw [hall,ha];have HCON:=ab hcon;clear hcon hn hr ha hall;go_enter Tryz.func35,Tryz.ntmps35
   go_wp2_with fail;refine HCON.out.mono ?_;rintro e w1 ⟨rfl,hB⟩;have HB:=ab (jT hB);clear hB;go_wp2;go_ret;exact ⟨rfl,HB.out⟩
  ·have ha':s.data.toList.all kP=false:=by simpa using ha
   have hr:=oV (fun e=>ha (List.all_eq_true.2 (fun c hc=>by rw [<- js];exact hn.1 e c hc)));rw [hall,ha'];generalize (⟨(Lib.trimS s.data.toList [48,49,50,51,52,53,54,55,56,57]).toArray⟩:ByteArray)=r at hcon hr;have HCON:=ab hcon;clear hcon hn ha hall ha';go_enter Tryz.func35,Tryz.ntmps35
   go_wp2_with fail;refine HCON.out.mono ?_;rintro e w1 ⟨rfl,hB⟩;have HB:=ab (jT hB);clear hB;go_wp2;go_ret;exact ⟨rfl,HB.out⟩
theorem nH (s:ByteArray) (w:World) (hs:s.size<=9223372036854775807) :
  Calls Tryz.prog 36 #[.string s,.string ⟨#[48]⟩] w fun e w'=>∃ r:ByteArray,e=.returned (.string r)/\(((∀ c∈s.data.toList,([48]:List UInt8).contains c=true)->r=⟨#[]⟩)/\((¬ ∀ c∈s.data.toList,([48]:List UInt8).contains c=true)->r.toList.isEmpty=false))/\w.grownBy w' none:=by
 have hcon:=Any.strings_Trim_laid Tryz.lays160 (by kernel_rfl) s ⟨#[48]⟩ w hs (by decide) (ascii_of_all (by decide));change Calls Tryz.prog 36 _ _ (fun e w'=>e=.returned (.string ⟨(Lib.trimS s.data.toList [48]).toArray⟩)/\Below w.heap.size w w') at hcon
 have hn:=rC s.data.toList [48];refine hcon.mono ?_;rintro e w1 ⟨rfl,hB⟩;exact ⟨_,rfl,⟨fun h=>tu (hn.2 h),fun h=>oV (fun e=>h (hn.1 e))⟩,jT hB⟩
def SplitE (w:World) (t:ByteArray) (e:Ending) (w':World):Prop :=
 w.grownBy w' none/\∃ A:ByteArray,A.data.toList=(Lib.cut t.data.toList [47]).1/\w'.cell? ⟨w.heap.size,0,none⟩=some (.string A) /\
  (((Lib.cut t.data.toList [47]).2.2=false/\∃ cap,1<=cap/\cap<=2/\e=.returned (.slice (some ⟨w.heap.size,0,none⟩) 1 cap)) ∨
   ((Lib.cut t.data.toList [47]).2.2=true/\∃ B:ByteArray,B.data.toList=(Lib.cut t.data.toList [47]).2.1/\w'.cell? ⟨w.heap.size,1,none⟩=some (.string B)/\e=.returned (.slice (some ⟨w.heap.size,0,none⟩) 2 2)))
theorem wW (t:ByteArray) (i:Nat) (h:i<=t.size):(t.extract 0 i).data.toList=t.data.toList.take i:=by
 rw [ByteArray.data_extract,Array.toList_extract];simp
theorem uG (t:ByteArray) (m:Int) (w:World) (ht:t.size<=4200000000) (hm:w.cell? ⟨1,0,none⟩=some (.int .i64 m)) :
  Calls Tryz.prog 34 #[.string t,.string ⟨#[47]⟩,.int .i64 2] w fun e w'=>SplitE w t e w':=by
 refine (Tryz.strings_SplitN t ⟨#[47]⟩ 2 m w (by omega) hm (by decide) (by decide) (by decide)).mono ?_;rintro e w1 ⟨rfl,rfl⟩;refine ⟨ag (ae _ _) _,?_⟩;rcases Lib.indexB_cases t ⟨#[47]⟩ with hi | ⟨i,hi,hle⟩
 ·rw [Lib.splitB_miss _ _ _ _ hi];have hc:Lib.cut t.data.toList [47]=(t.data.toList,[],false):=by
   unfold Lib.cut;have:Lib.index t.data.toList [47] = -1:=hi;rw [this,if_neg (by decide)]
  rw [hc];refine ⟨t,rfl,?_,.inl ⟨rfl,min 2 (t.size+1),by omega,by omega,rfl⟩⟩;rw [World.cell?_alloc_at _ _ _ _ rfl];simp [Lib.cellsOf]
 ·have hsz:(⟨#[47]⟩:ByteArray).size=1:=rfl;rw [hsz] at hle;have hmin:min 2 (t.size+1)=2:=by omega
  rw [hmin];rw [show (2-1:Nat)=0+1 from rfl,Lib.splitB_hit _ _ _ _ i hi,Lib.splitB_zero,hsz,Nat.add_zero];have hc:Lib.cut t.data.toList [47]=(t.data.toList.take i,t.data.toList.drop (i+1),true):=by
   unfold Lib.cut;have:Lib.index t.data.toList [47]=(i:Int):=hi;rw [this,if_pos (by omega)];simp
  rw [hc];refine ⟨t.extract 0 i,wW t i (by omega),?_,.inr ⟨rfl,t.extract (i+1) t.size,(ku t (i+1) (by omega)).1,?_,rfl⟩⟩
  ·rw [World.cell?_alloc_at _ _ _ _ rfl];simp [Lib.cellsOf]
  ·rw [World.cell?_alloc_at _ _ _ _ rfl];simp [Lib.cellsOf]
theorem wJ {s:ByteArray} (h:Lib.hasPrefix s.data.toList [45]=true):1<=s.size/\Lib.trimPrefix s.data.toList [45]=(s.extract 1 s.size).data.toList:=by
 have h1:1<=s.size:=by
  rw [Lib.size_eq];unfold Lib.hasPrefix at h;cases hl:s.data.toList with
  | nil=>rw [hl] at h;simp at h
  | cons a r=>simp
 refine ⟨h1,?_⟩;unfold Lib.trimPrefix;rw [if_pos h,(ku s 1 h1).1];rfl
theorem uE {s:List UInt8} {ng:Bool} {T A:List UInt8} (h1:Lib.hasPrefix s [45]=ng) (h2:Lib.trimPrefix s [45]=T) (h3:A=(Lib.cut T [47]).1) (h4:(Lib.cut T [47]).2.2=false):ib s=if bZ A then bq ng (aZ A) 1 else (false,0,1):=by
 have e:ee T=[49]:=by unfold ee;rw [h4];rfl
 unfold ib;rw [h1,h2,e,h3];have e1:bZ [49]=true:=by decide
 have e2:aZ [49]=1:=by decide
 rw [e1,e2,Bool.and_true]
theorem uF {s:List UInt8} {ng:Bool} {T A B:List UInt8} (h1:Lib.hasPrefix s [45]=ng) (h2:Lib.trimPrefix s [45]=T) (h3:A=(Lib.cut T [47]).1) (h5:B=(Lib.cut T [47]).2.1) (h4:(Lib.cut T [47]).2.2=true):ib s=if bZ A && bZ B then bq ng (aZ A) (aZ B) else (false,0,1):=by
 have e:ee T=B:=by unfold ee;rw [h4,h5];rfl
 unfold ib;rw [h1,h2,e,h3]
theorem iu (w:World):fW (w.alloc (.cells #[.bool false,.slice none 0 0,.bool false,.slice none 0 0] 53)) w.heap.size 0 false (.slice none 0 0)/\fW (w.alloc (.cells #[.bool false,.slice none 0 0,.bool false,.slice none 0 0] 53)) w.heap.size 2 false (.slice none 0 0) :=
 ⟨⟨by simp,by simp,by simp,by simp⟩,⟨by simp,by simp,by simp,by simp⟩⟩
def yi (w:World) (l:List UInt8) (L:Nat) (e:Ending) (w':World):Prop :=
 ∃ b,e=.returned (.pointer (some ⟨b,0,none⟩))/\w.grownBy w' none/\w.heap.size<=b/\aA w' b 0 (sg (ib l).1 (ib l).2.1) L /\
  (bU w' b (sg (ib l).1 (ib l).2.1) (ib l).2.2 L∨(ib l=(false,0,1)/\aA w' b 2 0 L))
theorem fU {w w1:World} {l:List UInt8} {L:Nat} (h:ib l=(false,0,1)) (hg:w.grownBy w1 none) :
  yi w l L (.returned (.pointer (some ⟨w1.heap.size,0,none⟩))) (w1.alloc (.cells #[.bool false,.slice none 0 0,.bool false,.slice none 0 0] 53)):=by
 have hz:∀ off,fW (w1.alloc (.cells #[.bool false,.slice none 0 0,.bool false,.slice none 0 0] 53)) w1.heap.size off false (.slice none 0 0)->aA (w1.alloc (.cells #[.bool false,.slice none 0 0,.bool false,.slice none 0 0] 53)) w1.heap.size off 0 L:=by
  intro off hB;exact ⟨false,.slice none 0 0,hB,(xJ _).mono (Nat.zero_le _),by simp,by simp [az]⟩
 refine ⟨_,rfl,ag hg _,hg.size,?_,.inr ⟨h,hz 2 (iu w1).2⟩⟩;rw [h];exact hz 0 (iu w1).1
theorem xD (n d:Nat) (hd:0<d) (ng:Bool):sg (bq ng n d).1 (bq ng n d).2.1=(if ng then-eW (n:Int) d else eW (n:Int) d)/\(bq ng n d).2.2=eO (n:Int) d:=by
 unfold bq eW eO;rw [Int.natAbs_natCast];by_cases hn:n=0
 ·subst hn;rw [if_pos (.inl rfl)];simp [sg,Nat.div_self hd]
 ·rw [if_neg (by omega)];cases ng<;>simp [sg]
theorem xT {w w5:World} {l:List UInt8} {n d nz L:Nat} (h:ib l=bq false n d) (hd:0<d) (hr:bU w5 nz (eW (n:Int) d) (eO (n:Int) d) L) (hg:w.grownBy w5 none) (hn:w.heap.size<=nz) {L':Nat} (hl:L<=L') :
  yi w l L' (.returned (.pointer (some ⟨nz,0,none⟩))) w5:=by
 obtain ⟨e1,e2⟩:=xD n d hd false;have e3:sg (ib l).1 (ib l).2.1=eW (n:Int) d:=by rw [h];simpa using e1
 have e4:(ib l).2.2=eO (n:Int) d:=by rw [h];exact e2
 refine ⟨nz,rfl,hg,hn,?_,.inl ?_⟩
 ·rw [e3];exact hr.1.mono hl
 ·rw [e3,e4];exact hr.mono hl
theorem xS {w w5:World} {l:List UInt8} {n d nz L:Nat} (h:ib l=bq true n d) (hd:0<d) (hr:bU w5 nz (- eW (n:Int) d) (eO (n:Int) d) L) (hg:w.grownBy w5 none) (hn:w.heap.size<=nz) {L':Nat} (hl:L<=L') :
  yi w l L' (.returned (.pointer (some ⟨nz,0,none⟩))) w5:=by
 obtain ⟨e1,e2⟩:=xD n d hd true;have e3:sg (ib l).1 (ib l).2.1 = - eW (n:Int) d:=by rw [h];simpa using e1
 have e4:(ib l).2.2=eO (n:Int) d:=by rw [h];exact e2
 refine ⟨nz,rfl,hg,hn,?_,.inl ?_⟩
 ·rw [e3];exact hr.1.mono hl
 ·rw [e3,e4];exact hr.mono hl
theorem uu (s:ByteArray) (m:Int) (w:World) (hs:s.size<=3000000000) (hml:w.cell? ⟨1,0,none⟩=some (.int .i64 m)) (hneg:Lib.hasPrefix s.data.toList [45]=false) :
  Calls Tryz.prog 13 #[.string s] w fun e w'=>yi w s.data.toList (3*s.size+8) e w':=by
 have HML:=ab hml;have HNEG:=ab hneg;have HT:Hid (Lib.trimPrefix s.data.toList [45]=s.data.toList):=by
  show _=_
  unfold Lib.trimPrefix;rw [if_neg (by rw [hneg];simp)]
 clear hml hneg;go_enter Tryz.func13,Tryz.ntmps13
 go_wp2_with fail;refine (Tryz.strings_HasPrefix s ⟨#[45]⟩ _).mono ?_;rintro e w0 ⟨rfl,rfl⟩;rw [show Lib.hasPrefix s.data.toList (⟨#[45]⟩:ByteArray).data.toList=false from HNEG.out];go_wp2_with fail;refine (uG s m w0 (by omega) HML.out).mono ?_;intro e w1 hE;obtain ⟨g1,A,hA1,q0,hw⟩:=hE;have hAz:A.size<=s.size:=by
  have:=(jP (s).data.toList [47]).1;rw [<- hA1,<- Lib.size_eq,<- Lib.size_eq] at this;omega
 have G1:=ab g1;have HA1:=ab hA1;clear g1 hA1;generalize w0.heap.size=h at *;have hTs:s.size<=s.size:=Nat.le_refl _;have hls:w0.heap.size<=w1.heap.size:=G1.out.size;rcases hw with ⟨hbar,cap,hc1,hc2,rfl⟩ | ⟨hbar,B,hB1,q1,rfl⟩
 ·have HS:Hid (ib s.data.toList=if bZ A.data.toList then bq false (aZ A.data.toList) 1 else (false,0,1)):=uE HNEG.out HT.out HA1.out hbar;clear hbar;by_cases ha:bZ A.data.toList=true
  ·have HA:=ab ha;rw [ha,if_pos rfl] at HS;clear ha;go_wp2_with fail;refine (aS A _ (by omega)).mono ?_;rintro e w2 ⟨rfl,o2⟩;rw [HA.out];have q0:=o2.cell q0 (by simp);have G2:=ab (aa G1.out o2);clear o2;have hh_w2:h<w2.heap.size:=eD q0;go_wp2_with fail;refine (dQ w2.heap.size 0 false (.slice none 0 0) A _ (gh w2) (iF HA.out) (by omega) (di HA.out)).mono ?_;intro e w3 hE;obtain ⟨rfl,p1,p2,_⟩:=hE;have g3:w2.grownBy w3 none:=cI (ag (ae _ _) _) p1 (Nat.le_refl _);have q0:=g3.cell q0 (by simp);have G3:=ab (aa G2.out g3);have N3:=ab p2;generalize w2.heap.size=na at *;clear p1 p2 g3;go_wp2_with fail;refine (fB 1 _ (by omega) (by omega)).mono ?_;rintro e w4 ⟨rfl,g4,p4,_⟩;have G4:=ab (aa G3.out g4);have N4:=ab (N3.out.keep0 g4);have D4:=ab p4;have q0:=g4.cell q0 (by simp);generalize w3.heap.size=nb at *;clear g4 p4;go_wp2_with fail;refine (dg w4.heap.size na 0 nb 0 false false (.slice none 0 0) (.slice none 0 0) (aZ A.data.toList:Nat) 1 (3*s.size+4) _ (iu w4).1 (iu w4).2 ((N4.out.mono (by omega)).keep0 (ag (ae _ _) _)) ((D4.out.mono (by omega)).keep0 (ag (ae _ _) _)) (by omega) (by omega)).mono ?_;rintro e w5 ⟨rfl,r5,t5⟩;have G5:=ab (aq (ag G4.out _) r5.gr (fun _ _ e=>e) (fun k hk e=>by cases e;have:=G4.out.size;omega));have R5:=ab t5;have hnew:w0.heap.size<=w4.heap.size:=G4.out.size;generalize w4.heap.size=nz at *;clear r5 t5;go_wp2
   go_ret;exact xT HS.out (by omega) R5.out G5.out hnew (by omega)
  ·have ha':bZ A.data.toList=false:=by simpa using ha
   have HA:=ab ha';rw [ha'] at HS;clear ha ha';go_wp2_with fail;refine (aS A _ (by omega)).mono ?_;rintro e w2 ⟨rfl,o2⟩;rw [HA.out];have G2:=ab (aa G1.out o2);clear o2;go_wp2;go_ret;exact fU HS.out G2.out
 ·have HS:Hid (ib s.data.toList=if bZ A.data.toList && bZ B.data.toList then bq false (aZ A.data.toList) (aZ B.data.toList) else (false,0,1)):=uF HNEG.out HT.out HA1.out hB1 hbar;have hBz:B.size<=s.size:=by
   have:=(jP s.data.toList [47]).2;rw [<- hB1,<- Lib.size_eq,<- Lib.size_eq] at this;omega
  clear hbar hB1;by_cases ha:bZ A.data.toList=true
  ·have HA:=ab ha;rw [ha,Bool.true_and] at HS;clear ha;by_cases hb:bZ B.data.toList=true
   ·have HB:=ab hb;rw [hb,if_pos rfl] at HS;clear hb;go_wp2_with fail;refine (aS A _ (by omega)).mono ?_;rintro e w2 ⟨rfl,o2⟩;rw [HA.out];have q0:=o2.cell q0 (by simp);have q1:=o2.cell q1 (by simp);have G2:=ab (aa G1.out o2);clear o2;go_wp2_with fail;refine (aS B _ (by omega)).mono ?_;rintro e w2b ⟨rfl,o2⟩;rw [HB.out];have q0:=o2.cell q0 (by simp);have q1:=o2.cell q1 (by simp);have G2b:=ab (aa G2.out o2);clear o2;go_wp2_with fail;refine (nH B _ (by omega)).mono ?_;rintro e w2c ⟨r,rfl,hr,o2⟩;have q0:=o2.cell q0 (by simp);have q1:=o2.cell q1 (by simp);have G2c:=ab (aa G2b.out o2);clear o2;by_cases hz:aZ B.data.toList=0
    ·obtain rfl:=hr.1 (vj (di HB.out) hz);rw [hz] at HS;clear hr hz;go_wp2;go_ret;refine fU ?_ G2c.out;rw [HS.out];unfold bq;rw [if_pos (.inr rfl)]
    ·have hre:=hr.2 (fun h=>hz (sM h));have hyp:0<aZ B.data.toList:=by omega
     clear hr hz;have hh_w2c:h<w2c.heap.size:=eD q0;go_wp2_with fail;refine (dQ w2c.heap.size 0 false (.slice none 0 0) A _ (gh w2c) (iF HA.out) (by omega) (di HA.out)).mono ?_;intro e w3 hE;obtain ⟨rfl,p1,p2,_⟩:=hE;have g3:w2c.grownBy w3 none:=cI (ag (ae _ _) _) p1 (Nat.le_refl _);have q0:=g3.cell q0 (by simp);have q1:=g3.cell q1 (by simp);have G3:=ab (aa G2c.out g3);have N3:=ab p2;generalize w2c.heap.size=na at *;clear p1 p2 g3;go_wp2_with fail;refine (fB 1 _ (by omega) (by omega)).mono ?_;rintro e w3b ⟨rfl,g4,_,_⟩;have G3b:=ab (aa G3.out g4);have N3b:=ab (N3.out.keep0 g4);have q0:=g4.cell q0 (by simp);have q1:=g4.cell q1 (by simp);clear g4;have hh_w3b:h<w3b.heap.size:=eD q0;go_wp2_with fail;refine (dQ w3b.heap.size 0 false (.slice none 0 0) B _ (gh w3b) (iF HB.out) (by omega) (di HB.out)).mono ?_;intro e w4 hE;obtain ⟨rfl,p1,p2,_⟩:=hE;have g4:w3b.grownBy w4 none:=cI (ag (ae _ _) _) p1 (Nat.le_refl _);have q0:=g4.cell q0 (by simp);have q1:=g4.cell q1 (by simp);have G4:=ab (aa G3b.out g4);have N4:=ab (N3b.out.keep0 g4);have D4:=ab p2;generalize w3b.heap.size=nb at *;clear p1 p2 g4;go_wp2_with fail;refine (dg w4.heap.size na 0 nb 0 false false (.slice none 0 0) (.slice none 0 0) (aZ A.data.toList:Nat) (aZ B.data.toList) (3*s.size+4) _ (iu w4).1 (iu w4).2 ((N4.out.mono (by omega)).keep0 (ag (ae _ _) _)) ((D4.out.mono (by omega)).keep0 (ag (ae _ _) _)) hyp (by omega)).mono ?_
     rintro e w5 ⟨rfl,r5,t5⟩;have G5:=ab (aq (ag G4.out _) r5.gr (fun _ _ e=>e) (fun k hk e=>by cases e;have:=G4.out.size;omega));have R5:=ab t5;have hnew:w0.heap.size<=w4.heap.size:=G4.out.size;generalize w4.heap.size=nz at *;clear r5 t5;go_wp2;go_ret;exact xT HS.out hyp R5.out G5.out hnew (by omega)
   ·have hb':bZ B.data.toList=false:=by simpa using hb
    have HB:=ab hb';rw [hb'] at HS;clear hb hb';go_wp2_with fail;refine (aS A _ (by omega)).mono ?_;rintro e w2 ⟨rfl,o2⟩;rw [HA.out];have q0:=o2.cell q0 (by simp);have q1:=o2.cell q1 (by simp);have G2:=ab (aa G1.out o2);clear o2;go_wp2_with fail;refine (aS B _ (by omega)).mono ?_;rintro e w2b ⟨rfl,o2⟩;rw [HB.out];have G2b:=ab (aa G2.out o2);clear o2;go_wp2;go_ret;exact fU HS.out G2b.out
  ·have ha':bZ A.data.toList=false:=by simpa using ha
   have HA:=ab ha';rw [ha',Bool.false_and] at HS;clear ha ha';go_wp2_with fail;refine (aS A _ (by omega)).mono ?_;rintro e w2 ⟨rfl,o2⟩;rw [HA.out];have G2:=ab (aa G1.out o2);clear o2;go_wp2;go_ret;exact fU HS.out G2.out
theorem wN (s:ByteArray) (m:Int) (w:World) (hs:s.size<=3000000000) (hml:w.cell? ⟨1,0,none⟩=some (.int .i64 m)) (hneg:Lib.hasPrefix s.data.toList [45]=true) :
  Calls Tryz.prog 13 #[.string s] w fun e w'=>yi w s.data.toList (3*s.size+8) e w':=by
 have HML:=ab hml;have HNEG:=ab hneg;obtain ⟨hp1,hp2⟩:=wJ hneg;have hT0:Hid (Lib.trimPrefix s.data.toList [45]=(s.extract 1 s.size).data.toList):=hp2;have hTz:=(ku s 1 hp1).2;clear hp2;clear hml hneg;go_enter Tryz.func13,Tryz.ntmps13
 go_wp2_with fail;refine (Tryz.strings_HasPrefix s ⟨#[45]⟩ _).mono ?_;rintro e w0 ⟨rfl,rfl⟩;rw [show Lib.hasPrefix s.data.toList (⟨#[45]⟩:ByteArray).data.toList=true from HNEG.out];go_wp2_with fail;refine (uG (s.extract 1 s.size) m w0 (by omega) HML.out).mono ?_;intro e w1 hE;obtain ⟨g1,A,hA1,q0,hw⟩:=hE;have hAz:A.size<=s.size:=by
  have:=(jP ((s.extract 1 s.size)).data.toList [47]).1;rw [<- hA1,<- Lib.size_eq,<- Lib.size_eq] at this;omega
 have G1:=ab g1;have HA1:=ab hA1;clear g1 hA1;generalize w0.heap.size=h at *;have hls:w0.heap.size<=w1.heap.size:=G1.out.size;rcases hw with ⟨hbar,cap,hc1,hc2,rfl⟩ | ⟨hbar,B,hB1,q1,rfl⟩
 ·have HS:Hid (ib s.data.toList=if bZ A.data.toList then bq true (aZ A.data.toList) 1 else (false,0,1)):=uE HNEG.out hT0.out HA1.out hbar;clear hbar;by_cases ha:bZ A.data.toList=true
  ·have HA:=ab ha;rw [ha,if_pos rfl] at HS;clear ha;go_wp2_with fail;refine (aS A _ (by omega)).mono ?_;rintro e w2 ⟨rfl,o2⟩;rw [HA.out];have q0:=o2.cell q0 (by simp);have G2:=ab (aa G1.out o2);clear o2;have hh_w2:h<w2.heap.size:=eD q0;go_wp2_with fail;refine (dQ w2.heap.size 0 false (.slice none 0 0) A _ (gh w2) (iF HA.out) (by omega) (di HA.out)).mono ?_;intro e w3 hE;obtain ⟨rfl,p1,p2,_⟩:=hE;have g3:w2.grownBy w3 none:=cI (ag (ae _ _) _) p1 (Nat.le_refl _);have q0:=g3.cell q0 (by simp);have G3:=ab (aa G2.out g3);have N3:=ab p2;generalize w2.heap.size=na at *;clear p1 p2 g3;go_wp2_with fail;refine (fB 1 _ (by omega) (by omega)).mono ?_;rintro e w4 ⟨rfl,g4,p4,_⟩;have G4:=ab (aa G3.out g4);have N4:=ab (N3.out.keep0 g4);have D4:=ab p4;have q0:=g4.cell q0 (by simp);generalize w3.heap.size=nb at *;clear g4 p4;go_wp2_with fail;refine (dg w4.heap.size na 0 nb 0 false false (.slice none 0 0) (.slice none 0 0) (aZ A.data.toList:Nat) 1 (3*s.size+4) _ (iu w4).1 (iu w4).2 ((N4.out.mono (by omega)).keep0 (ag (ae _ _) _)) ((D4.out.mono (by omega)).keep0 (ag (ae _ _) _)) (by omega) (by omega)).mono ?_;rintro e w5 ⟨rfl,r5,t5⟩;have G5:=ab (aq (ag G4.out _) r5.gr (fun _ _ e=>e) (fun k hk e=>by cases e;have:=G4.out.size;omega));have R5:=ab t5;have hnew:w0.heap.size<=w4.heap.size:=G4.out.size;generalize w4.heap.size=nz at *;clear r5 t5;go_wp2_with fail
   refine (nq nz _ _ _ w5 R5.out (by omega)).mono ?_;rintro e w6 ⟨rfl,r6,t6⟩;have G6:=ab (aq G5.out r6.gr (fun _ _ e=>e) (fun k hk e=>by cases e;omega));have R6:=ab t6;clear r6 t6;go_wp2;go_ret;exact xS HS.out (by omega) R6.out G6.out hnew (by omega)
  ·have ha':bZ A.data.toList=false:=by simpa using ha
   have HA:=ab ha';rw [ha'] at HS;clear ha ha';go_wp2_with fail;refine (aS A _ (by omega)).mono ?_;rintro e w2 ⟨rfl,o2⟩;rw [HA.out];have G2:=ab (aa G1.out o2);clear o2;go_wp2;go_ret;exact fU HS.out G2.out
 ·have HS:Hid (ib s.data.toList=if bZ A.data.toList && bZ B.data.toList then bq true (aZ A.data.toList) (aZ B.data.toList) else (false,0,1)):=uF HNEG.out hT0.out HA1.out hB1 hbar;have hBz:B.size<=s.size:=by
   have:=(jP (s.extract 1 s.size).data.toList [47]).2;rw [<- hB1,<- Lib.size_eq,<- Lib.size_eq] at this;omega
  clear hbar hB1;by_cases ha:bZ A.data.toList=true
  ·have HA:=ab ha;rw [ha,Bool.true_and] at HS;clear ha;by_cases hb:bZ B.data.toList=true
   ·have HB:=ab hb;rw [hb,if_pos rfl] at HS;clear hb;go_wp2_with fail;refine (aS A _ (by omega)).mono ?_;rintro e w2 ⟨rfl,o2⟩;rw [HA.out];have q0:=o2.cell q0 (by simp);have q1:=o2.cell q1 (by simp);have G2:=ab (aa G1.out o2);clear o2;go_wp2_with fail;refine (aS B _ (by omega)).mono ?_;rintro e w2b ⟨rfl,o2⟩;rw [HB.out];have q0:=o2.cell q0 (by simp);have q1:=o2.cell q1 (by simp);have G2b:=ab (aa G2.out o2);clear o2;go_wp2_with fail;refine (nH B _ (by omega)).mono ?_;rintro e w2c ⟨r,rfl,hr,o2⟩;have q0:=o2.cell q0 (by simp);have q1:=o2.cell q1 (by simp);have G2c:=ab (aa G2b.out o2);clear o2;by_cases hz:aZ B.data.toList=0
    ·obtain rfl:=hr.1 (vj (di HB.out) hz);rw [hz] at HS;clear hr hz;go_wp2;go_ret;refine fU ?_ G2c.out;rw [HS.out];unfold bq;rw [if_pos (.inr rfl)]
    ·have hre:=hr.2 (fun h=>hz (sM h));have hyp:0<aZ B.data.toList:=by omega
     clear hr hz;have hh_w2c:h<w2c.heap.size:=eD q0;go_wp2_with fail;refine (dQ w2c.heap.size 0 false (.slice none 0 0) A _ (gh w2c) (iF HA.out) (by omega) (di HA.out)).mono ?_;intro e w3 hE;obtain ⟨rfl,p1,p2,_⟩:=hE;have g3:w2c.grownBy w3 none:=cI (ag (ae _ _) _) p1 (Nat.le_refl _);have q0:=g3.cell q0 (by simp);have q1:=g3.cell q1 (by simp);have G3:=ab (aa G2c.out g3);have N3:=ab p2;generalize w2c.heap.size=na at *;clear p1 p2 g3;go_wp2_with fail;refine (fB 1 _ (by omega) (by omega)).mono ?_;rintro e w3b ⟨rfl,g4,_,_⟩;have G3b:=ab (aa G3.out g4);have N3b:=ab (N3.out.keep0 g4);have q0:=g4.cell q0 (by simp);have q1:=g4.cell q1 (by simp);clear g4;have hh_w3b:h<w3b.heap.size:=eD q0;go_wp2_with fail;refine (dQ w3b.heap.size 0 false (.slice none 0 0) B _ (gh w3b) (iF HB.out) (by omega) (di HB.out)).mono ?_;intro e w4 hE;obtain ⟨rfl,p1,p2,_⟩:=hE;have g4:w3b.grownBy w4 none:=cI (ag (ae _ _) _) p1 (Nat.le_refl _);have q0:=g4.cell q0 (by simp);have q1:=g4.cell q1 (by simp);have G4:=ab (aa G3b.out g4);have N4:=ab (N3b.out.keep0 g4);have D4:=ab p2;generalize w3b.heap.size=nb at *;clear p1 p2 g4;go_wp2_with fail;refine (dg w4.heap.size na 0 nb 0 false false (.slice none 0 0) (.slice none 0 0) (aZ A.data.toList:Nat) (aZ B.data.toList) (3*s.size+4) _ (iu w4).1 (iu w4).2 ((N4.out.mono (by omega)).keep0 (ag (ae _ _) _)) ((D4.out.mono (by omega)).keep0 (ag (ae _ _) _)) hyp (by omega)).mono ?_
     rintro e w5 ⟨rfl,r5,t5⟩;have G5:=ab (aq (ag G4.out _) r5.gr (fun _ _ e=>e) (fun k hk e=>by cases e;have:=G4.out.size;omega));have R5:=ab t5;have hnew:w0.heap.size<=w4.heap.size:=G4.out.size;generalize w4.heap.size=nz at *;clear r5 t5;go_wp2_with fail;refine (nq nz _ _ _ w5 R5.out (by omega)).mono ?_;rintro e w6 ⟨rfl,r6,t6⟩;have G6:=ab (aq G5.out r6.gr (fun _ _ e=>e) (fun k hk e=>by cases e;omega));have R6:=ab t6;clear r6 t6;go_wp2;go_ret;exact xS HS.out hyp R6.out G6.out hnew (by omega)
   ·have hb':bZ B.data.toList=false:=by simpa using hb
    have HB:=ab hb';rw [hb'] at HS;clear hb hb';go_wp2_with fail;refine (aS A _ (by omega)).mono ?_;rintro e w2 ⟨rfl,o2⟩;rw [HA.out];have q0:=o2.cell q0 (by simp);have q1:=o2.cell q1 (by simp);have G2:=ab (aa G1.out o2);clear o2;go_wp2_with fail;refine (aS B _ (by omega)).mono ?_;rintro e w2b ⟨rfl,o2⟩;rw [HB.out];have G2b:=ab (aa G2.out o2);clear o2;go_wp2;go_ret;exact fU HS.out G2b.out
  ·have ha':bZ A.data.toList=false:=by simpa using ha
   have HA:=ab ha';rw [ha',Bool.false_and] at HS;clear ha ha';go_wp2_with fail;refine (aS A _ (by omega)).mono ?_;rintro e w2 ⟨rfl,o2⟩;rw [HA.out];have G2:=ab (aa G1.out o2);clear o2;go_wp2;go_ret;exact fU HS.out G2.out
theorem B8 (s:ByteArray) (m:Int) (w:World) (hs:s.size<=3000000000) (hml:w.cell? ⟨1,0,none⟩=some (.int .i64 m)) :
  Calls Tryz.prog 13 #[.string s] w fun e w'=>yi w s.data.toList (3*s.size+8) e w':=by
 cases hneg:Lib.hasPrefix s.data.toList [45] with
 | false=>exact uu s m w hs hml hneg
 | true=>exact wN s m w hs hml hneg
end Go.Proofs.YtfjnoikjhdpghaaGreatDoor
