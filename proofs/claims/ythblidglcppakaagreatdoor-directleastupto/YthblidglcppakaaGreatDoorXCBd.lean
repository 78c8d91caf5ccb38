/- Contracts that the proof leans on. -/
import Derived.Test.YthblidglcppakaaGreatDoorXCBc
import Derived.Test.YthblidglcppakaaGreatDoorXMFc
import Derived.Shelf.Strings.SlTrimAscii
import Derived.Lib.CutLaws
namespace Go.Proofs.YthblidglcppakaaGreatDoor
open Go.RowKit
set_option linter.unusedVariables false
set_option linter.unusedSimpArgs false
set_option maxHeartbeats 8000000
set_option maxRecDepth 10000
theorem Bm (b:Nat) (x:Int) (y L:Nat) (w:World) (h:bQ w b x y L) :
  Calls Tryz.prog 35 #[.pointer (some ⟨b,0,none⟩)] w fun e w'=>e=.returned (.pointer (some ⟨b,2,none⟩))/\w'=w:=by
 obtain ⟨h1,h2,h3,h4⟩:=h;obtain ⟨nb,vb,b1,b2,b3,b4⟩:=h2;rw [Int.natAbs_natCast] at b2;obtain ⟨bo,lb,cb,rfl,y1,y2,y3,y4,y5,y6⟩:=aL b2;have d1:=b1.c1;have hlb:((lb:Int)==0)=false:=beq_eq_false_iff_ne.2 (by omega);clear b1 b2 b3 b4 y1 y5 y6 h1 h3 h4;go_enter Tryz.func35,Tryz.ntmps35
 go_wp2;go_ret;exact ⟨rfl,rfl⟩
theorem bQ.keep0 {w w':World} {b L:Nat} {x:Int} {y:Nat} (h:bQ w b x y L) (hg:w.grownBy w' none):bQ w' b x y L :=
 ⟨h.1.keep0 hg,h.2.1.keep0 hg,h.2.2⟩
theorem bQ.mono {w:World} {b L L':Nat} {x:Int} {y:Nat} (h:bQ w b x y L) (hl:L<=L'):bQ w b x y L':=⟨h.1.mono hl,h.2.1.mono hl,h.2.2⟩
theorem kC {w w1:World} {r:Option Nat} (h:w.grownBy w1 r):w.grownBy w1.drew r:=⟨h.os,h.tape,h.output,h.size,h.block⟩
theorem wN {l:List UInt8} (h:∀ c∈l,kS c=true) (c:UInt8) (hc:c∈l):48<=c.toNat/\c.toNat<=57:=by
 have:=h c hc;unfold kS at this;rw [Bool.and_eq_true,decide_eq_true_eq,decide_eq_true_eq] at this;exact this
theorem tw (s:ByteArray) (i:Nat) (h:i<s.size):s[i]∈s.data.toList:=by
 have:s[i]=s.data.toList[i]'(by simpa using h):=rfl;rw [this];exact List.getElem_mem _
theorem yf (w:World):aU w (.slice none 0 0) 0 0:=⟨[],Ws.nil w,rfl,rfl,Nat.le_refl _⟩
theorem iS {w:World} {v:Value} {n L:Nat} (h:aU w v n L):∃ ao l cap,v=.slice ao l cap/\l<=cap/\cap<=9223372036854775807:=by
 obtain ⟨xs,x1,x2,x3,x4⟩:=h;obtain ⟨ao,ca,rfl,h1,h2,h3⟩:=x1.open;exact ⟨ao,xs.length,ca,rfl,h1,by unfold maxLen at h2;omega⟩
def SetR (w:World) (s:ByteArray) (rv iv:Value) (wr:World):Prop :=
 ∃ i:Nat,i<=s.size/\iv=.int .i64 i/\aU wr rv (aZ (s.data.toList.take i)) (3*i)/\w.grownBy wr none/\bA w rv
def SetE (w:World) (b off:Nat) (s:ByteArray) (e:Ending) (w':World):Prop:=e=.returned (.tuple #[.pointer (some ⟨b,off,none⟩),.bool true])/\fY w w' b off/\aB w' b off (aZ s.data.toList:Nat) (3*s.size)/\eX w w' b off
theorem dQ (b off:Nat) (neg0:Bool) (v0:Value) (s:ByteArray) (w:World) (hB:gC w b off neg0 v0) (h0:0<s.size) (hs:s.size<=1000000000000) (hd:∀ c∈s.data.toList,kS c=true) :
  Calls Tryz.prog 29 #[.pointer (some ⟨b,off,none⟩),.string s,.int .i64 10] w fun e w'=>SetE w b off s e w':=by
 have HB:=ab hB;have hb:=hB.lt;have HD:=ab hd;obtain ⟨f1,f2⟩:=wN hd s[0] (tw s 0 h0);have g1:((s[0].toNat:Int)==45)=false:=by simp;omega
 have g2:((s[0].toNat:Int)==43)=false:=by simp;omega
 have hne:((s.size:Int)==0)=false:=by simp;intro e;rw [e] at h0;simp at h0
 clear hd hB f1 f2;go_enter Tryz.func29,Tryz.ntmps29
 go_wp2;clear g1 g2 hne;go_loopw [9,10] (fun rv iv wr=>Hid (SetR w s rv iv wr)) (fun _ iv _=>s.size-(intOf iv).toNat)
 case atStart=>exact ⟨0,by omega,rfl,yf _,ae _ _,fun k hk=>by simp [az] at hk⟩
 case round =>
  obtain ⟨i,hi,rfl,h1,h2,h3⟩:=hrel.out;obtain ⟨ao,l,cap,rfl,hc1,hc2⟩:=iS h1;have H1:=ab h1;have H2:=ab h2;have H3:=ab h3;clear h1 h2 h3 hrel;by_cases hlt:i<s.size
  ·obtain ⟨d1,d2⟩:=wN HD.out s[i] (tw s i hlt);have HTB:=ab (rL s i hlt);obtain ⟨c,hc⟩:∃ c,c=s[i].toNat:=⟨_,rfl⟩;have d1':(48:Int)<=(s[i].toNat:Int):=by omega
   have d2':(s[i].toNat:Int)<=57:=by omega
   have HC:=ab hc;clear hc;go_wp2_with fail;refine (eO _ _ ?p1 ?p2).mono ?_
   case p1=>omega
   case p2=>omega
   rintro e w1 ⟨v1,rfl,k1,k2,k3⟩;obtain ⟨ao1,l1,cap1,rfl,hd1,hd2⟩:=iS k1;have K1:=ab k1;have K2:=ab k2;clear k1 k2 k3;go_wp2_with fail;refine (ye _ _ (aZ (s.data.toList.take i)) 10 (3*i) 2 w1 (H1.out.keep0 K2.out) (by simpa using K1.out) (by omega)).mono ?_;rintro e w2 ⟨v2,rfl,m1,m2,m3⟩;obtain ⟨ao2,l2,cap2,rfl,he1,he2⟩:=iS m1;have M1:=ab m1;have M2:=ab (aa K2.out m2);clear m1 m2 m3;go_wp2_with fail;refine (eO _ _ ?q1 ?q2).mono ?_
   case q1=>omega
   case q2=>omega
   rintro e w3 ⟨v3,rfl,n1,n2,n3⟩;obtain ⟨ao3,l3,cap3,rfl,hf1,hf2⟩:=iS n1;have N1:=ab n1;have N2:=ab (aa M2.out n2);have M1':=ab (M1.out.keep0 n2);clear n1 n2 n3;go_wp2_with fail;refine (xM _ _ _ _ (3*i+2) 2 w3 M1'.out N1.out (by omega) (by omega)).mono ?_;rintro e w4 ⟨v4,rfl,p1,p2,p3⟩;obtain ⟨ao4,l4,cap4,rfl,hg1,hg2⟩:=iS p1;have P1:=ab p1;have P2:=ab (aa N2.out p2);have P3:=ab (show bA w (Value.slice ao4 l4 cap4) from fun k hk=>Nat.le_trans (aa H2.out N2.out).size (p3 k hk));clear p1 p2 p3;go_wp2;go_roundw
   case rel =>
    refine ⟨i+1,by omega,by go_num,?_,aa H2.out P2.out,P3.out⟩;rw [HTB.out,oU];have hP:=P1.out.mono (L':=3*(i+1)) (by omega);have e:((s[i].toNat:Int)-48).toNat=s[i].toNat-48:=by omega
    first
     | exact hP
     | (rw [e] at hP;exact hP)
   case measure=>simp [intOf];omega
  ·have ht:s.data.toList.take i=s.data.toList:=List.take_of_length_le (by have:=Lib.size_eq s;omega);have hi2:i=s.size:=by omega
   have HT:=ab ht;clear ht;go_wp2_with fail;refine (gS b off neg0 v0 _ _ _ _ wr (HB.out.keep0 H2.out) H1.out (gR (w1:=w) H3.out hb)).mono ?_;rintro e w2 ⟨rfl,a1,a2,a5⟩;have A1:=ab a1;have A2:=ab a2;have A5:=ab a5;clear a1 a2 a5;go_wp2;refine bodyPost_ret (v:=.tuple #[.pointer (some ⟨b,off,none⟩),.bool true]) (by simp [results,Tryz.results29,go_sem]) rfl ?_;refine ⟨rfl,(fY.of_gr H2.out b off hb).trans A1.out,?_,eX.of A5.out H3.out (Nat.le_refl _)⟩;have h:=A2.out;rw [HT.out,hi2] at h;exact h
theorem wM (b off:Nat) (z:Int) (L:Nat) (w:World) (h:aB w b off z L) :
  Calls Tryz.prog 46 #[.pointer (some ⟨b,off,none⟩)] w fun e w'=>e=.returned (.int .i64 (vT z))/\w'=w:=by
 obtain ⟨neg,v,h1,h2,h3,h4⟩:=h;obtain ⟨ao,l,ca,rfl,hl,_,hc1,hc2,_,_⟩:=aL h2;have c0:=h1.c0;have c1:=h1.c1;clear h1 h2 h4;by_cases hz:z=0
 ·have hl0:l=0:=hl.2 (by omega);subst hl0;clear hl;go_enter Tryz.func46,Tryz.ntmps46
  go_wp2;go_ret;exact ⟨by simp [vT,hz],rfl⟩
 ·have hl0:0<l:=by
   rcases Nat.eq_zero_or_pos l with e | e
   ·have:=hl.1 e;omega
   ·exact e
  have hl1:((l:Int)==0)=false:=by simp;omega
  clear hl;by_cases hn:z<0
  ·obtain rfl:neg=true:=by rw [h3];simp [hn]
   clear h3;go_enter Tryz.func46,Tryz.ntmps46
   go_wp2;go_ret;exact ⟨by simp [vT,hn],rfl⟩
  ·obtain rfl:neg=false:=by rw [h3];simp [hn]
   clear h3;go_enter Tryz.func46,Tryz.ntmps46
   go_wp2;go_ret;refine ⟨?_,rfl⟩;have hp:0<z:=by omega
   simp [vT,hn,hp]
theorem pH (b:Nat) (z:Int) (L:Nat) (w:World) (h:aB w b 0 z L) :
  Calls Tryz.prog 19 #[.pointer (some ⟨b,0,none⟩)] w fun e w'=>e=.returned (.int .i64 (vT z))/\w'=w:=by
 have H:=ab h;clear h;go_enter Tryz.func19,Tryz.ntmps19
 go_wp2_with fail;refine (wM b 0 z L w H.out).mono ?_;rintro e w1 ⟨rfl,rfl⟩;go_wp2;go_ret;exact ⟨rfl,rfl⟩
theorem B0 {x:Int} {y:Nat} (h:Nat.gcd x.natAbs y=1):fp x y=x/\fe x y=y:=by
 unfold fp fe;rw [h];simp
theorem uR (b:Nat) (x:Int) (y L:Nat) (w:World) (h:bQ w b x y L) (hL:L<=4000000000000) :
  Calls Tryz.prog 69 #[.pointer (some ⟨b,0,none⟩),.pointer (some ⟨b,0,none⟩)] w fun e w'=>e=.returned (.pointer (some ⟨b,0,none⟩))/\bB w w' b/\bQ w' b x y (L+2):=by
 have H:=ab h;obtain ⟨n1,v1,b1,_⟩:=h.1;obtain ⟨n2,v2,b2,_⟩:=h.2.1;have B1:=ab b1;have B2:=ab b2;have hlow:=B0 h.2.2.2;have HLOW:=ab hlow;clear h b1 b2 hlow;go_enter Tryz.func69,Tryz.ntmps69
 go_wp2;go_region_with (first | (go_at_call 35;refine (Bm b x y L _ (H.out.keep0 (aF _))).mono ?_;rintro e w1 ⟨rfl,rfl⟩) | (go_at_call 31;refine (dJ b b 0 b 2 n1 n2 v1 v2 x y L _ (B1.out.keep0 (aF _)) (B2.out.keep0 (aF _)) (H.out.1.keep0 (aF _)) (H.out.2.1.keep0 (aF _)) H.out.2.2.1 hL).mono ?_;rintro e w2 ⟨rfl,a1,a2⟩))
 all_goals go_wp2
 all_goals go_ret
 all_goals rw [HLOW.out.1,HLOW.out.2] at a2
 all_goals exact ⟨rfl,(bB.of_gr (aF _)).trans a1,a2⟩
theorem nP (b:Nat) (x:Int) (y L:Nat) (w:World) (h:bQ w b x y L) (hL:L<=4000000000000) :
  Calls Tryz.prog 32 #[.pointer (some ⟨b,0,none⟩),.pointer (some ⟨b,0,none⟩)] w fun e w'=>e=.returned (.pointer (some ⟨b,0,none⟩))/\bB w w' b/\bQ w' b (-x) y (L+2):=by
 have H:=ab h;clear h;go_enter Tryz.func32,Tryz.ntmps32
 go_wp2_with fail;refine (uR b x y L w H.out hL).mono ?_;rintro e w1 ⟨rfl,a1,a2⟩;obtain ⟨n1,v1,b1,_⟩:=a2.1;have A1:=ab a1;have A2:=ab a2;have B1:=ab b1;clear a1 a2 b1;go_wp2;go_region_with (go_at_call 70;refine (pz b 0 b 0 n1 v1 x (L+2) _ (B1.out.keep0 (aF _)) (A2.out.1.keep0 (aF _)) (by omega)).mono ?_;rintro e w2 ⟨rfl,c1,c2,c3⟩)
 all_goals go_wp2
 all_goals go_ret
 all_goals refine ⟨rfl,A1.out.trans ((bB.of_gr (aF _)).trans (bB.of_put c1)),c2,?_,A2.out.2.2.1,by rw [Int.natAbs_neg];exact A2.out.2.2.2⟩
 all_goals refine (A2.out.2.1.keep0 (aF _)).keep c1 (.inr (.inr (by omega))) ?_
 all_goals (intro v hv e;obtain ⟨n2,v2,b2,b3,b4,b5⟩:=A2.out.2.1;have e2:=b2.c1;simp at e2 hv;rw [e2] at hv;exact b5 (by rw [Option.some.inj hv];exact e))
theorem jz (c:UInt8):([48,49,50,51,52,53,54,55,56,57]:List UInt8).contains c=kS c:=by
 rw [Bool.eq_iff_iff];simp [kS,<- UInt8.toNat_inj];omega
theorem jA (c:UInt8):([48]:List UInt8).contains c=true↔c=48:=by simp
theorem wE (p:UInt8->Bool):∀ l:List UInt8,l.dropWhile p=[]↔∀ c∈l,p c=true
 | []=>by simp
 | a :: r=>by
  rw [List.dropWhile_cons];by_cases h:p a=true
  ·rw [if_pos h,wE p r];simp [h]
  ·rw [if_neg h];simp [h]
theorem xR (p:UInt8->Bool):∀ (l:List UInt8) (x:UInt8) (r:List UInt8),l.dropWhile p=x :: r->p x=false
 | [],x,r,h=>by simp at h
 | a :: t,x,r,h=>by
  rw [List.dropWhile_cons] at h;by_cases ha:p a=true
  ·rw [if_pos ha] at h;exact xR p t x r h
  ·rw [if_neg ha] at h;obtain ⟨rfl,_⟩:=List.cons.inj h;simpa using ha
theorem Bq (p:UInt8->Bool):∀ (l:List UInt8) (c:UInt8),c∈l.dropWhile p->c∈l
 | [],c,h=>by simp at h
 | a :: t,c,h=>by
  rw [List.dropWhile_cons] at h;by_cases ha:p a=true
  ·rw [if_pos ha] at h;exact List.mem_cons_of_mem _ (Bq p t c h)
  ·rw [if_neg ha] at h;exact h
theorem rP (l cs:List UInt8):Lib.trimS l cs=[]↔∀ c∈l,cs.contains c=true:=by
 unfold Lib.trimS Lib.trimLeftS Lib.trimRightS;rw [wE];constructor
 ·intro h;cases he:l.reverse.dropWhile (fun x=>cs.contains x) with
  | nil =>
   rw [wE] at he;exact fun c hc=>he c (by simpa using hc)
  | cons x r =>
   exfalso
   have h1:=xR _ _ _ _ he;have h2:=h x (by rw [he];simp);simp only [h1] at h2;exact absurd h2 (by simp)
 ·intro h c hc;rw [List.mem_reverse] at hc;exact h c (by simpa using Bq _ _ _ hc)
theorem vR {l:List UInt8} (hd:∀ c∈l,kS c=true) (h:aZ l=0):∀ c∈l,([48]:List UInt8).contains c=true:=by
 induction l with
 | nil=>intro c hc;simp at hc
 | cons a r ih =>
  have e:=lr [a] r;simp only [List.singleton_append] at e;rw [h] at e;have h1:aZ [a]*10^r.length=0:=by omega
  have h2:aZ r=0:=by omega
  have h3:aZ [a]=0:=by
   rcases Nat.mul_eq_zero.1 h1 with h | h
   ·exact h
   ·have:=Nat.pow_pos (n:=r.length) (show 0<10 by decide);omega
  have h4:=(wN hd a (by simp)).1;intro c hc;rcases List.mem_cons.1 hc with rfl | hc
  ·rw [jA,<- UInt8.toNat_inj];simp [aZ] at h3;show c.toNat=48
   omega
  ·exact ih (fun c hc=>hd c (by simp [hc])) h2 c hc
theorem tm {l:List UInt8} (h:∀ c∈l,([48]:List UInt8).contains c=true):aZ l=0:=by
 induction l with
 | nil=>rfl
 | cons a r ih =>
  have e:=lr [a] r;simp only [List.singleton_append] at e;have h1:=(jA a).1 (h a (by simp));rw [e,ih (fun c hc=>h c (by simp [hc])),h1];have:aZ [(48:UInt8)]=0:=by decide
  rw [this];simp
theorem iM {s:ByteArray} (h:bU s.data.toList=true):0<s.size:=by
 rw [Lib.size_eq];unfold bU at h;cases hl:s.data.toList with
 | nil=>rw [hl] at h;simp at h
 | cons a r=>simp
theorem j7 {w w':World} (h:Below w.heap.size w w'):w.grownBy w' none:=by
 obtain ⟨a,b,c,d,e⟩:=h;exact ⟨a,b,c,d,fun k hk _=>e k hk⟩
theorem tS {l:List UInt8} (h:l=[]):(⟨l.toArray⟩:ByteArray)=⟨#[]⟩:=by rw [h]
theorem pg {l:List UInt8} (h:l≠[]):(⟨l.toArray⟩:ByteArray).toList.isEmpty=false:=by
 rw [Lib.toList_data];cases l with
 | nil=>exact absurd rfl h
 | cons a r=>rfl
theorem aR (s:ByteArray) (w:World) (hs:s.size<=9223372036854775807) :
  Calls Tryz.prog 27 #[.string s] w fun e w'=>e=.returned (.bool (bU s.data.toList))/\w.grownBy w' none:=by
 by_cases h0:s.data.toList=[]
 ·have he:s=⟨#[]⟩:=by
   rw [<- Lib.mk_data s,h0]
  subst he;go_enter Tryz.func27,Tryz.ntmps27
  go_wp2;go_ret;exact ⟨rfl,ae _ _⟩
 ·have hemp:s.toList.isEmpty=false:=by
   rw [Lib.toList_data];cases h:s.data.toList with
   | nil=>exact absurd h h0
   | cons a r=>rfl
  have hcon:=Any.strings_Trim_laid Tryz.lays160 (by kernel_rfl) s ⟨#[48,49,50,51,52,53,54,55,56,57]⟩ w hs (by decide) (ascii_of_all (by decide));change Calls Tryz.prog 28 _ _ (fun e w'=>e=.returned (.string ⟨(Lib.trimS s.data.toList [48,49,50,51,52,53,54,55,56,57]).toArray⟩)/\Below w.heap.size w w') at hcon
  have hn:=rP s.data.toList [48,49,50,51,52,53,54,55,56,57];have hall:bU s.data.toList=s.data.toList.all kS:=by
   unfold bU;cases h:s.data.toList with
   | nil=>exact absurd h h0
   | cons a r=>rfl
  by_cases ha:s.data.toList.all kS=true
  ·have hr:=tS (hn.2 (fun c hc=>by rw [jz];exact List.all_eq_true.1 ha c hc));rw [hr] at hcon;rw [hall,ha];have HCON:=ab hcon;clear hcon hn hr ha hall;go_enter Tryz.func27,Tryz.ntmps27
   go_wp2_with fail;refine HCON.out.mono ?_;rintro e w1 ⟨rfl,hB⟩;have HB:=ab (j7 hB);clear hB;go_wp2;go_ret;exact ⟨rfl,HB.out⟩
  ·have ha':s.data.toList.all kS=false:=by simpa using ha
   have hr:=pg (fun e=>ha (List.all_eq_true.2 (fun c hc=>by rw [<- jz];exact hn.1 e c hc)));rw [hall,ha'];generalize (⟨(Lib.trimS s.data.toList [48,49,50,51,52,53,54,55,56,57]).toArray⟩:ByteArray)=r at hcon hr;have HCON:=ab hcon;clear hcon hn ha hall ha';go_enter Tryz.func27,Tryz.ntmps27
   go_wp2_with fail;refine HCON.out.mono ?_;rintro e w1 ⟨rfl,hB⟩;have HB:=ab (j7 hB);clear hB;go_wp2;go_ret;exact ⟨rfl,HB.out⟩
theorem nR (s:ByteArray) (w:World) (hs:s.size<=9223372036854775807) :
  Calls Tryz.prog 28 #[.string s,.string ⟨#[48]⟩] w fun e w'=>∃ r:ByteArray,e=.returned (.string r)/\(((∀ c∈s.data.toList,([48]:List UInt8).contains c=true)->r=⟨#[]⟩)/\((¬ ∀ c∈s.data.toList,([48]:List UInt8).contains c=true)->r.toList.isEmpty=false))/\w.grownBy w' none:=by
 have hcon:=Any.strings_Trim_laid Tryz.lays160 (by kernel_rfl) s ⟨#[48]⟩ w hs (by decide) (ascii_of_all (by decide));change Calls Tryz.prog 28 _ _ (fun e w'=>e=.returned (.string ⟨(Lib.trimS s.data.toList [48]).toArray⟩)/\Below w.heap.size w w') at hcon
 have hn:=rP s.data.toList [48];refine hcon.mono ?_;rintro e w1 ⟨rfl,hB⟩;exact ⟨_,rfl,⟨fun h=>tS (hn.2 h),fun h=>pg (fun e=>h (hn.1 e))⟩,j7 hB⟩
def SplitE (w:World) (t:ByteArray) (e:Ending) (w':World):Prop :=
 w.grownBy w' none/\∃ A:ByteArray,A.data.toList=(Lib.cut t.data.toList [47]).1/\w'.cell? ⟨w.heap.size,0,none⟩=some (.string A) /\
  (((Lib.cut t.data.toList [47]).2.2=false/\∃ cap,1<=cap/\cap<=2/\e=.returned (.slice (some ⟨w.heap.size,0,none⟩) 1 cap)) ∨
   ((Lib.cut t.data.toList [47]).2.2=true/\∃ B:ByteArray,B.data.toList=(Lib.cut t.data.toList [47]).2.1/\w'.cell? ⟨w.heap.size,1,none⟩=some (.string B)/\e=.returned (.slice (some ⟨w.heap.size,0,none⟩) 2 2)))
theorem xD (t:ByteArray) (i:Nat) (h:i<=t.size):(t.extract 0 i).data.toList=t.data.toList.take i:=by
 rw [ByteArray.data_extract,Array.toList_extract];simp
theorem vg (t:ByteArray) (m:Int) (w:World) (ht:t.size<=4200000000) (hm:w.cell? ⟨1,0,none⟩=some (.int .i64 m)) :
  Calls Tryz.prog 26 #[.string t,.string ⟨#[47]⟩,.int .i64 2] w fun e w'=>SplitE w t e w':=by
 refine (Tryz.strings_SplitN t ⟨#[47]⟩ 2 m w (by omega) hm (by decide) (by decide) (by decide)).mono ?_;rintro e w1 ⟨rfl,rfl⟩;refine ⟨ag (ae _ _) _,?_⟩;rcases Lib.indexB_cases t ⟨#[47]⟩ with hi | ⟨i,hi,hle⟩
 ·rw [Lib.splitB_miss _ _ _ _ hi];have hc:Lib.cut t.data.toList [47]=(t.data.toList,[],false):=by
   unfold Lib.cut;have:Lib.index t.data.toList [47] = -1:=hi;rw [this,if_neg (by decide)]
  rw [hc];refine ⟨t,rfl,?_,.inl ⟨rfl,min 2 (t.size+1),by omega,by omega,rfl⟩⟩;rw [World.cell?_alloc_at _ _ _ _ rfl];simp [Lib.cellsOf]
 ·have hsz:(⟨#[47]⟩:ByteArray).size=1:=rfl;rw [hsz] at hle;have hmin:min 2 (t.size+1)=2:=by omega
  rw [hmin];rw [show (2-1:Nat)=0+1 from rfl,Lib.splitB_hit _ _ _ _ i hi,Lib.splitB_zero,hsz,Nat.add_zero];have hc:Lib.cut t.data.toList [47]=(t.data.toList.take i,t.data.toList.drop (i+1),true):=by
   unfold Lib.cut;have:Lib.index t.data.toList [47]=(i:Int):=hi;rw [this,if_pos (by omega)];simp
  rw [hc];refine ⟨t.extract 0 i,xD t i (by omega),?_,.inr ⟨rfl,t.extract (i+1) t.size,(ky t (i+1) (by omega)).1,?_,rfl⟩⟩
  ·rw [World.cell?_alloc_at _ _ _ _ rfl];simp [Lib.cellsOf]
  ·rw [World.cell?_alloc_at _ _ _ _ rfl];simp [Lib.cellsOf]
theorem xk {s:ByteArray} (h:Lib.hasPrefix s.data.toList [45]=true):1<=s.size/\Lib.trimPrefix s.data.toList [45]=(s.extract 1 s.size).data.toList:=by
 have h1:1<=s.size:=by
  rw [Lib.size_eq];unfold Lib.hasPrefix at h;cases hl:s.data.toList with
  | nil=>rw [hl] at h;simp at h
  | cons a r=>simp
 refine ⟨h1,?_⟩;unfold Lib.trimPrefix;rw [if_pos h,(ky s 1 h1).1];rfl
theorem uZ {s:List UInt8} {ng:Bool} {T A:List UInt8} (h1:Lib.hasPrefix s [45]=ng) (h2:Lib.trimPrefix s [45]=T) (h3:A=(Lib.cut T [47]).1) (h4:(Lib.cut T [47]).2.2=false):im s=if bU A then bn ng (aZ A) 1 else (false,0,1):=by
 have e:ei T=[49]:=by unfold ei;rw [h4];rfl
 unfold im;rw [h1,h2,e,h3];have e1:bU [49]=true:=by decide
 have e2:aZ [49]=1:=by decide
 rw [e1,e2,Bool.and_true]
theorem vf {s:List UInt8} {ng:Bool} {T A B:List UInt8} (h1:Lib.hasPrefix s [45]=ng) (h2:Lib.trimPrefix s [45]=T) (h3:A=(Lib.cut T [47]).1) (h5:B=(Lib.cut T [47]).2.1) (h4:(Lib.cut T [47]).2.2=true):im s=if bU A && bU B then bn ng (aZ A) (aZ B) else (false,0,1):=by
 have e:ei T=B:=by unfold ei;rw [h4,h5];rfl
 unfold im;rw [h1,h2,e,h3]
theorem iF (w:World):gC (w.alloc (.cells #[.bool false,.slice none 0 0,.bool false,.slice none 0 0] 47)) w.heap.size 0 false (.slice none 0 0)/\gC (w.alloc (.cells #[.bool false,.slice none 0 0,.bool false,.slice none 0 0] 47)) w.heap.size 2 false (.slice none 0 0) :=
 ⟨⟨by simp,by simp,by simp,by simp⟩,⟨by simp,by simp,by simp,by simp⟩⟩
def yK (w:World) (l:List UInt8) (L:Nat) (e:Ending) (w':World):Prop :=
 ∃ b,e=.returned (.pointer (some ⟨b,0,none⟩))/\w.grownBy w' none/\w.heap.size<=b/\aB w' b 0 (sg (im l).1 (im l).2.1) L /\
  (bQ w' b (sg (im l).1 (im l).2.1) (im l).2.2 L∨(im l=(false,0,1)/\aB w' b 2 0 L))
theorem fU {w w1:World} {l:List UInt8} {L:Nat} (h:im l=(false,0,1)) (hg:w.grownBy w1 none) :
  yK w l L (.returned (.pointer (some ⟨w1.heap.size,0,none⟩))) (w1.alloc (.cells #[.bool false,.slice none 0 0,.bool false,.slice none 0 0] 47)):=by
 have hz:∀ off,gC (w1.alloc (.cells #[.bool false,.slice none 0 0,.bool false,.slice none 0 0] 47)) w1.heap.size off false (.slice none 0 0)->aB (w1.alloc (.cells #[.bool false,.slice none 0 0,.bool false,.slice none 0 0] 47)) w1.heap.size off 0 L:=by
  intro off hB;exact ⟨false,.slice none 0 0,hB,(yf _).mono (Nat.zero_le _),by simp,by simp [az]⟩
 refine ⟨_,rfl,ag hg _,hg.size,?_,.inr ⟨h,hz 2 (iF w1).2⟩⟩;rw [h];exact hz 0 (iF w1).1
theorem yb (n d:Nat) (hd:0<d) (ng:Bool):sg (bn ng n d).1 (bn ng n d).2.1=(if ng then-fp (n:Int) d else fp (n:Int) d)/\(bn ng n d).2.2=fe (n:Int) d:=by
 unfold bn fp fe;rw [Int.natAbs_natCast];by_cases hn:n=0
 ·subst hn;rw [if_pos (.inl rfl)];simp [sg,Nat.div_self hd]
 ·rw [if_neg (by omega)];cases ng<;>simp [sg]
theorem yu {w w5:World} {l:List UInt8} {n d nz L:Nat} (h:im l=bn false n d) (hd:0<d) (hr:bQ w5 nz (fp (n:Int) d) (fe (n:Int) d) L) (hg:w.grownBy w5 none) (hn:w.heap.size<=nz) {L':Nat} (hl:L<=L') :
  yK w l L' (.returned (.pointer (some ⟨nz,0,none⟩))) w5:=by
 obtain ⟨e1,e2⟩:=yb n d hd false;have e3:sg (im l).1 (im l).2.1=fp (n:Int) d:=by rw [h];simpa using e1
 have e4:(im l).2.2=fe (n:Int) d:=by rw [h];exact e2
 refine ⟨nz,rfl,hg,hn,?_,.inl ?_⟩
 ·rw [e3];exact hr.1.mono hl
 ·rw [e3,e4];exact hr.mono hl
theorem yt {w w5:World} {l:List UInt8} {n d nz L:Nat} (h:im l=bn true n d) (hd:0<d) (hr:bQ w5 nz (- fp (n:Int) d) (fe (n:Int) d) L) (hg:w.grownBy w5 none) (hn:w.heap.size<=nz) {L':Nat} (hl:L<=L') :
  yK w l L' (.returned (.pointer (some ⟨nz,0,none⟩))) w5:=by
 obtain ⟨e1,e2⟩:=yb n d hd true;have e3:sg (im l).1 (im l).2.1 = - fp (n:Int) d:=by rw [h];simpa using e1
 have e4:(im l).2.2=fe (n:Int) d:=by rw [h];exact e2
 refine ⟨nz,rfl,hg,hn,?_,.inl ?_⟩
 ·rw [e3];exact hr.1.mono hl
 ·rw [e3,e4];exact hr.mono hl
theorem uS (s:ByteArray) (m:Int) (w:World) (hs:s.size<=3000000000) (hml:w.cell? ⟨1,0,none⟩=some (.int .i64 m)) (hneg:Lib.hasPrefix s.data.toList [45]=false) :
  Calls Tryz.prog 8 #[.string s] w fun e w'=>yK w s.data.toList (3*s.size+8) e w':=by
 have HML:=ab hml;have HNEG:=ab hneg;have HT:Hid (Lib.trimPrefix s.data.toList [45]=s.data.toList):=by
  show _=_
  unfold Lib.trimPrefix;rw [if_neg (by rw [hneg];simp)]
 clear hml hneg;go_enter Tryz.func8,Tryz.ntmps8
 go_wp2_with fail;refine (Tryz.strings_HasPrefix s ⟨#[45]⟩ _).mono ?_;rintro e w0 ⟨rfl,rfl⟩;rw [show Lib.hasPrefix s.data.toList (⟨#[45]⟩:ByteArray).data.toList=false from HNEG.out];go_wp2_with fail;refine (vg s m w0 (by omega) HML.out).mono ?_;intro e w1 hE;obtain ⟨g1,A,hA1,q0,hw⟩:=hE;have hAz:A.size<=s.size:=by
  have:=(jY (s).data.toList [47]).1;rw [<- hA1,<- Lib.size_eq,<- Lib.size_eq] at this;omega
 have G1:=ab g1;have HA1:=ab hA1;clear g1 hA1;generalize w0.heap.size=h at *;have hTs:s.size<=s.size:=Nat.le_refl _;have hls:w0.heap.size<=w1.heap.size:=G1.out.size;rcases hw with ⟨hbar,cap,hc1,hc2,rfl⟩ | ⟨hbar,B,hB1,q1,rfl⟩
 ·have HS:Hid (im s.data.toList=if bU A.data.toList then bn false (aZ A.data.toList) 1 else (false,0,1)):=uZ HNEG.out HT.out HA1.out hbar;clear hbar;by_cases ha:bU A.data.toList=true
  ·have HA:=ab ha;rw [ha,if_pos rfl] at HS;clear ha;go_wp2_with fail;refine (aR A _ (by omega)).mono ?_;rintro e w2 ⟨rfl,o2⟩;rw [HA.out];have q0:=o2.cell q0 (by simp);have G2:=ab (aa G1.out o2);clear o2;have hh_w2:h<w2.heap.size:=eE q0;go_wp2_with fail;refine (dQ w2.heap.size 0 false (.slice none 0 0) A _ (gh w2) (iM HA.out) (by omega) (dj HA.out)).mono ?_;intro e w3 hE;obtain ⟨rfl,p1,p2,_⟩:=hE;have g3:w2.grownBy w3 none:=cH (ag (ae _ _) _) p1 (Nat.le_refl _);have q0:=g3.cell q0 (by simp);have G3:=ab (aa G2.out g3);have N3:=ab p2;generalize w2.heap.size=na at *;clear p1 p2 g3;go_wp2_with fail;refine (fF 1 _ (by omega) (by omega)).mono ?_;rintro e w4 ⟨rfl,g4,p4,_⟩;have G4:=ab (aa G3.out g4);have N4:=ab (N3.out.keep0 g4);have D4:=ab p4;have q0:=g4.cell q0 (by simp);generalize w3.heap.size=nb at *;clear g4 p4;go_wp2_with fail;refine (dJ w4.heap.size na 0 nb 0 false false (.slice none 0 0) (.slice none 0 0) (aZ A.data.toList:Nat) 1 (3*s.size+4) _ (iF w4).1 (iF w4).2 ((N4.out.mono (by omega)).keep0 (ag (ae _ _) _)) ((D4.out.mono (by omega)).keep0 (ag (ae _ _) _)) (by omega) (by omega)).mono ?_;rintro e w5 ⟨rfl,r5,t5⟩;have G5:=ab (aq (ag G4.out _) r5.gr (fun _ _ e=>e) (fun k hk e=>by cases e;have:=G4.out.size;omega));have R5:=ab t5;have hnew:w0.heap.size<=w4.heap.size:=G4.out.size;generalize w4.heap.size=nz at *;clear r5 t5;go_wp2
   go_ret;exact yu HS.out (by omega) R5.out G5.out hnew (by omega)
  ·have ha':bU A.data.toList=false:=by simpa using ha
   have HA:=ab ha';rw [ha'] at HS;clear ha ha';go_wp2_with fail;refine (aR A _ (by omega)).mono ?_;rintro e w2 ⟨rfl,o2⟩;rw [HA.out];have G2:=ab (aa G1.out o2);clear o2;go_wp2;go_ret;exact fU HS.out G2.out
 ·have HS:Hid (im s.data.toList=if bU A.data.toList && bU B.data.toList then bn false (aZ A.data.toList) (aZ B.data.toList) else (false,0,1)):=vf HNEG.out HT.out HA1.out hB1 hbar;have hBz:B.size<=s.size:=by
   have:=(jY s.data.toList [47]).2;rw [<- hB1,<- Lib.size_eq,<- Lib.size_eq] at this;omega
  clear hbar hB1;by_cases ha:bU A.data.toList=true
  ·have HA:=ab ha;rw [ha,Bool.true_and] at HS;clear ha;by_cases hb:bU B.data.toList=true
   ·have HB:=ab hb;rw [hb,if_pos rfl] at HS;clear hb;go_wp2_with fail;refine (aR A _ (by omega)).mono ?_;rintro e w2 ⟨rfl,o2⟩;rw [HA.out];have q0:=o2.cell q0 (by simp);have q1:=o2.cell q1 (by simp);have G2:=ab (aa G1.out o2);clear o2;go_wp2_with fail;refine (aR B _ (by omega)).mono ?_;rintro e w2b ⟨rfl,o2⟩;rw [HB.out];have q0:=o2.cell q0 (by simp);have q1:=o2.cell q1 (by simp);have G2b:=ab (aa G2.out o2);clear o2;go_wp2_with fail;refine (nR B _ (by omega)).mono ?_;rintro e w2c ⟨r,rfl,hr,o2⟩;have q0:=o2.cell q0 (by simp);have q1:=o2.cell q1 (by simp);have G2c:=ab (aa G2b.out o2);clear o2;by_cases hz:aZ B.data.toList=0
    ·obtain rfl:=hr.1 (vR (dj HB.out) hz);rw [hz] at HS;clear hr hz;go_wp2;go_ret;refine fU ?_ G2c.out;rw [HS.out];unfold bn;rw [if_pos (.inr rfl)]
    ·have hre:=hr.2 (fun h=>hz (tm h));have hyp:0<aZ B.data.toList:=by omega
     clear hr hz;have hh_w2c:h<w2c.heap.size:=eE q0;go_wp2_with fail;refine (dQ w2c.heap.size 0 false (.slice none 0 0) A _ (gh w2c) (iM HA.out) (by omega) (dj HA.out)).mono ?_;intro e w3 hE;obtain ⟨rfl,p1,p2,_⟩:=hE;have g3:w2c.grownBy w3 none:=cH (ag (ae _ _) _) p1 (Nat.le_refl _);have q0:=g3.cell q0 (by simp);have q1:=g3.cell q1 (by simp);have G3:=ab (aa G2c.out g3);have N3:=ab p2;generalize w2c.heap.size=na at *;clear p1 p2 g3;go_wp2_with fail;refine (fF 1 _ (by omega) (by omega)).mono ?_;rintro e w3b ⟨rfl,g4,_,_⟩;have G3b:=ab (aa G3.out g4);have N3b:=ab (N3.out.keep0 g4);have q0:=g4.cell q0 (by simp);have q1:=g4.cell q1 (by simp);clear g4;have hh_w3b:h<w3b.heap.size:=eE q0;go_wp2_with fail;refine (dQ w3b.heap.size 0 false (.slice none 0 0) B _ (gh w3b) (iM HB.out) (by omega) (dj HB.out)).mono ?_;intro e w4 hE;obtain ⟨rfl,p1,p2,_⟩:=hE;have g4:w3b.grownBy w4 none:=cH (ag (ae _ _) _) p1 (Nat.le_refl _);have q0:=g4.cell q0 (by simp);have q1:=g4.cell q1 (by simp);have G4:=ab (aa G3b.out g4);have N4:=ab (N3b.out.keep0 g4);have D4:=ab p2;generalize w3b.heap.size=nb at *;clear p1 p2 g4;go_wp2_with fail;refine (dJ w4.heap.size na 0 nb 0 false false (.slice none 0 0) (.slice none 0 0) (aZ A.data.toList:Nat) (aZ B.data.toList) (3*s.size+4) _ (iF w4).1 (iF w4).2 ((N4.out.mono (by omega)).keep0 (ag (ae _ _) _)) ((D4.out.mono (by omega)).keep0 (ag (ae _ _) _)) hyp (by omega)).mono ?_
     rintro e w5 ⟨rfl,r5,t5⟩;have G5:=ab (aq (ag G4.out _) r5.gr (fun _ _ e=>e) (fun k hk e=>by cases e;have:=G4.out.size;omega));have R5:=ab t5;have hnew:w0.heap.size<=w4.heap.size:=G4.out.size;generalize w4.heap.size=nz at *;clear r5 t5;go_wp2;go_ret;exact yu HS.out hyp R5.out G5.out hnew (by omega)
   ·have hb':bU B.data.toList=false:=by simpa using hb
    have HB:=ab hb';rw [hb'] at HS;clear hb hb';go_wp2_with fail;refine (aR A _ (by omega)).mono ?_;rintro e w2 ⟨rfl,o2⟩;rw [HA.out];have q0:=o2.cell q0 (by simp);have q1:=o2.cell q1 (by simp);have G2:=ab (aa G1.out o2);clear o2;go_wp2_with fail;refine (aR B _ (by omega)).mono ?_;rintro e w2b ⟨rfl,o2⟩;rw [HB.out];have G2b:=ab (aa G2.out o2);clear o2;go_wp2;go_ret;exact fU HS.out G2b.out
  ·have ha':bU A.data.toList=false:=by simpa using ha
   have HA:=ab ha';rw [ha',Bool.false_and] at HS;clear ha ha';go_wp2_with fail;refine (aR A _ (by omega)).mono ?_;rintro e w2 ⟨rfl,o2⟩;rw [HA.out];have G2:=ab (aa G1.out o2);clear o2;go_wp2;go_ret;exact fU HS.out G2.out
theorem xt (s:ByteArray) (m:Int) (w:World) (hs:s.size<=3000000000) (hml:w.cell? ⟨1,0,none⟩=some (.int .i64 m)) (hneg:Lib.hasPrefix s.data.toList [45]=true) :
  Calls Tryz.prog 8 #[.string s] w fun e w'=>yK w s.data.toList (3*s.size+8) e w':=by
 have HML:=ab hml;have HNEG:=ab hneg;obtain ⟨hp1,hp2⟩:=xk hneg;have hT0:Hid (Lib.trimPrefix s.data.toList [45]=(s.extract 1 s.size).data.toList):=hp2;have hTz:=(ky s 1 hp1).2;clear hp2;clear hml hneg;go_enter Tryz.func8,Tryz.ntmps8
 go_wp2_with fail;refine (Tryz.strings_HasPrefix s ⟨#[45]⟩ _).mono ?_;rintro e w0 ⟨rfl,rfl⟩;rw [show Lib.hasPrefix s.data.toList (⟨#[45]⟩:ByteArray).data.toList=true from HNEG.out];go_wp2_with fail;refine (vg (s.extract 1 s.size) m w0 (by omega) HML.out).mono ?_;intro e w1 hE;obtain ⟨g1,A,hA1,q0,hw⟩:=hE;have hAz:A.size<=s.size:=by
  have:=(jY ((s.extract 1 s.size)).data.toList [47]).1;rw [<- hA1,<- Lib.size_eq,<- Lib.size_eq] at this;omega
 have G1:=ab g1;have HA1:=ab hA1;clear g1 hA1;generalize w0.heap.size=h at *;have hls:w0.heap.size<=w1.heap.size:=G1.out.size;rcases hw with ⟨hbar,cap,hc1,hc2,rfl⟩ | ⟨hbar,B,hB1,q1,rfl⟩
 ·have HS:Hid (im s.data.toList=if bU A.data.toList then bn true (aZ A.data.toList) 1 else (false,0,1)):=uZ HNEG.out hT0.out HA1.out hbar;clear hbar;by_cases ha:bU A.data.toList=true
  ·have HA:=ab ha;rw [ha,if_pos rfl] at HS;clear ha;go_wp2_with fail;refine (aR A _ (by omega)).mono ?_;rintro e w2 ⟨rfl,o2⟩;rw [HA.out];have q0:=o2.cell q0 (by simp);have G2:=ab (aa G1.out o2);clear o2;have hh_w2:h<w2.heap.size:=eE q0;go_wp2_with fail;refine (dQ w2.heap.size 0 false (.slice none 0 0) A _ (gh w2) (iM HA.out) (by omega) (dj HA.out)).mono ?_;intro e w3 hE;obtain ⟨rfl,p1,p2,_⟩:=hE;have g3:w2.grownBy w3 none:=cH (ag (ae _ _) _) p1 (Nat.le_refl _);have q0:=g3.cell q0 (by simp);have G3:=ab (aa G2.out g3);have N3:=ab p2;generalize w2.heap.size=na at *;clear p1 p2 g3;go_wp2_with fail;refine (fF 1 _ (by omega) (by omega)).mono ?_;rintro e w4 ⟨rfl,g4,p4,_⟩;have G4:=ab (aa G3.out g4);have N4:=ab (N3.out.keep0 g4);have D4:=ab p4;have q0:=g4.cell q0 (by simp);generalize w3.heap.size=nb at *;clear g4 p4;go_wp2_with fail;refine (dJ w4.heap.size na 0 nb 0 false false (.slice none 0 0) (.slice none 0 0) (aZ A.data.toList:Nat) 1 (3*s.size+4) _ (iF w4).1 (iF w4).2 ((N4.out.mono (by omega)).keep0 (ag (ae _ _) _)) ((D4.out.mono (by omega)).keep0 (ag (ae _ _) _)) (by omega) (by omega)).mono ?_;rintro e w5 ⟨rfl,r5,t5⟩;have G5:=ab (aq (ag G4.out _) r5.gr (fun _ _ e=>e) (fun k hk e=>by cases e;have:=G4.out.size;omega));have R5:=ab t5;have hnew:w0.heap.size<=w4.heap.size:=G4.out.size;generalize w4.heap.size=nz at *;clear r5 t5;go_wp2_with fail
   refine (nP nz _ _ _ w5 R5.out (by omega)).mono ?_;rintro e w6 ⟨rfl,r6,t6⟩;have G6:=ab (aq G5.out r6.gr (fun _ _ e=>e) (fun k hk e=>by cases e;omega));have R6:=ab t6;clear r6 t6;go_wp2;go_ret;exact yt HS.out (by omega) R6.out G6.out hnew (by omega)
  ·have ha':bU A.data.toList=false:=by simpa using ha
   have HA:=ab ha';rw [ha'] at HS;clear ha ha';go_wp2_with fail;refine (aR A _ (by omega)).mono ?_;rintro e w2 ⟨rfl,o2⟩;rw [HA.out];have G2:=ab (aa G1.out o2);clear o2;go_wp2;go_ret;exact fU HS.out G2.out
 ·have HS:Hid (im s.data.toList=if bU A.data.toList && bU B.data.toList then bn true (aZ A.data.toList) (aZ B.data.toList) else (false,0,1)):=vf HNEG.out hT0.out HA1.out hB1 hbar;have hBz:B.size<=s.size:=by
   have:=(jY (s.extract 1 s.size).data.toList [47]).2;rw [<- hB1,<- Lib.size_eq,<- Lib.size_eq] at this;omega
  clear hbar hB1;by_cases ha:bU A.data.toList=true
  ·have HA:=ab ha;rw [ha,Bool.true_and] at HS;clear ha;by_cases hb:bU B.data.toList=true
   ·have HB:=ab hb;rw [hb,if_pos rfl] at HS;clear hb;go_wp2_with fail;refine (aR A _ (by omega)).mono ?_;rintro e w2 ⟨rfl,o2⟩;rw [HA.out];have q0:=o2.cell q0 (by simp);have q1:=o2.cell q1 (by simp);have G2:=ab (aa G1.out o2);clear o2;go_wp2_with fail;refine (aR B _ (by omega)).mono ?_;rintro e w2b ⟨rfl,o2⟩;rw [HB.out];have q0:=o2.cell q0 (by simp);have q1:=o2.cell q1 (by simp);have G2b:=ab (aa G2.out o2);clear o2;go_wp2_with fail;refine (nR B _ (by omega)).mono ?_;rintro e w2c ⟨r,rfl,hr,o2⟩;have q0:=o2.cell q0 (by simp);have q1:=o2.cell q1 (by simp);have G2c:=ab (aa G2b.out o2);clear o2;by_cases hz:aZ B.data.toList=0
    ·obtain rfl:=hr.1 (vR (dj HB.out) hz);rw [hz] at HS;clear hr hz;go_wp2;go_ret;refine fU ?_ G2c.out;rw [HS.out];unfold bn;rw [if_pos (.inr rfl)]
    ·have hre:=hr.2 (fun h=>hz (tm h));have hyp:0<aZ B.data.toList:=by omega
     clear hr hz;have hh_w2c:h<w2c.heap.size:=eE q0;go_wp2_with fail;refine (dQ w2c.heap.size 0 false (.slice none 0 0) A _ (gh w2c) (iM HA.out) (by omega) (dj HA.out)).mono ?_;intro e w3 hE;obtain ⟨rfl,p1,p2,_⟩:=hE;have g3:w2c.grownBy w3 none:=cH (ag (ae _ _) _) p1 (Nat.le_refl _);have q0:=g3.cell q0 (by simp);have q1:=g3.cell q1 (by simp);have G3:=ab (aa G2c.out g3);have N3:=ab p2;generalize w2c.heap.size=na at *;clear p1 p2 g3;go_wp2_with fail;refine (fF 1 _ (by omega) (by omega)).mono ?_;rintro e w3b ⟨rfl,g4,_,_⟩;have G3b:=ab (aa G3.out g4);have N3b:=ab (N3.out.keep0 g4);have q0:=g4.cell q0 (by simp);have q1:=g4.cell q1 (by simp);clear g4;have hh_w3b:h<w3b.heap.size:=eE q0;go_wp2_with fail;refine (dQ w3b.heap.size 0 false (.slice none 0 0) B _ (gh w3b) (iM HB.out) (by omega) (dj HB.out)).mono ?_;intro e w4 hE;obtain ⟨rfl,p1,p2,_⟩:=hE;have g4:w3b.grownBy w4 none:=cH (ag (ae _ _) _) p1 (Nat.le_refl _);have q0:=g4.cell q0 (by simp);have q1:=g4.cell q1 (by simp);have G4:=ab (aa G3b.out g4);have N4:=ab (N3b.out.keep0 g4);have D4:=ab p2;generalize w3b.heap.size=nb at *;clear p1 p2 g4;go_wp2_with fail;refine (dJ w4.heap.size na 0 nb 0 false false (.slice none 0 0) (.slice none 0 0) (aZ A.data.toList:Nat) (aZ B.data.toList) (3*s.size+4) _ (iF w4).1 (iF w4).2 ((N4.out.mono (by omega)).keep0 (ag (ae _ _) _)) ((D4.out.mono (by omega)).keep0 (ag (ae _ _) _)) hyp (by omega)).mono ?_
     rintro e w5 ⟨rfl,r5,t5⟩;have G5:=ab (aq (ag G4.out _) r5.gr (fun _ _ e=>e) (fun k hk e=>by cases e;have:=G4.out.size;omega));have R5:=ab t5;have hnew:w0.heap.size<=w4.heap.size:=G4.out.size;generalize w4.heap.size=nz at *;clear r5 t5;go_wp2_with fail;refine (nP nz _ _ _ w5 R5.out (by omega)).mono ?_;rintro e w6 ⟨rfl,r6,t6⟩;have G6:=ab (aq G5.out r6.gr (fun _ _ e=>e) (fun k hk e=>by cases e;omega));have R6:=ab t6;clear r6 t6;go_wp2;go_ret;exact yt HS.out hyp R6.out G6.out hnew (by omega)
   ·have hb':bU B.data.toList=false:=by simpa using hb
    have HB:=ab hb';rw [hb'] at HS;clear hb hb';go_wp2_with fail;refine (aR A _ (by omega)).mono ?_;rintro e w2 ⟨rfl,o2⟩;rw [HA.out];have q0:=o2.cell q0 (by simp);have q1:=o2.cell q1 (by simp);have G2:=ab (aa G1.out o2);clear o2;go_wp2_with fail;refine (aR B _ (by omega)).mono ?_;rintro e w2b ⟨rfl,o2⟩;rw [HB.out];have G2b:=ab (aa G2.out o2);clear o2;go_wp2;go_ret;exact fU HS.out G2b.out
  ·have ha':bU A.data.toList=false:=by simpa using ha
   have HA:=ab ha';rw [ha',Bool.false_and] at HS;clear ha ha';go_wp2_with fail;refine (aR A _ (by omega)).mono ?_;rintro e w2 ⟨rfl,o2⟩;rw [HA.out];have G2:=ab (aa G1.out o2);clear o2;go_wp2;go_ret;exact fU HS.out G2.out
theorem CH (s:ByteArray) (m:Int) (w:World) (hs:s.size<=3000000000) (hml:w.cell? ⟨1,0,none⟩=some (.int .i64 m)) :
  Calls Tryz.prog 8 #[.string s] w fun e w'=>yK w s.data.toList (3*s.size+8) e w':=by
 cases hneg:Lib.hasPrefix s.data.toList [45] with
 | false=>exact uS s m w hs hml hneg
 | true=>exact xt s m w hs hml hneg
end Go.Proofs.YthblidglcppakaaGreatDoor
