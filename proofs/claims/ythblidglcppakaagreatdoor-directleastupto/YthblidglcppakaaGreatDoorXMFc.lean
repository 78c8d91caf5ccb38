/- Contracts that the proof leans on. -/
import Derived.Test.YthblidglcppakaaGreatDoorXCFc
import Derived.Test.YthblidglcppakaaGreatDoorXMFa
import Derived.Test.YthblidglcppakaaGreatDoorXMFb
import Derived.Deep.RegionHeld3
namespace Go.Proofs.YthblidglcppakaaGreatDoor
open Go.RowKit
set_option linter.unusedVariables false
set_option linter.unusedSimpArgs false
set_option maxHeartbeats 8000000
set_option maxRecDepth 10000
theorem yh {xs:List Nat} (hs:Sm xs) (ht:Tr xs):(xs==[1])=decide (ak xs=1):=by
 rw [Bool.eq_iff_iff];simp only [beq_iff_eq,decide_eq_true_eq];constructor
 ·intro e;rw [e];simp [ak]
 ·intro e;refine yG hs (Sm.cons (by decide) Sm.nil) ht (by simp [Tr,aN]) ?_;rw [e];simp [ak]
theorem rp (v:Value) (L:Nat) (w:World) (h:aU w v 1 L):Calls Tryz.prog 168 #[v] w fun e w'=>e=.returned (.bool true)/\w'=w:=by
 obtain ⟨xs,h1,h2,h3,h4⟩:=h;refine (rh v xs w h1).mono ?_;rintro e w' ⟨rfl,rfl⟩;rw [yh h1.sm h2,h3];exact ⟨rfl,rfl⟩
theorem ud (v:Value) (n L:Nat) (w:World) (h:aU w v n L) (hn:n≠1):Calls Tryz.prog 168 #[v] w fun e w'=>e=.returned (.bool false)/\w'=w:=by
 obtain ⟨xs,h1,h2,h3,h4⟩:=h;refine (rh v xs w h1).mono ?_;rintro e w' ⟨rfl,rfl⟩;rw [yh h1.sm h2,h3];exact ⟨by simp [hn],rfl⟩
def FV (w:World) (v:Value) (neg:Bool) (n d L:Nat):Prop :=
 ∃ up down,v=.agg #[.bool neg,up,down]/\aU w up n L/\((down=.slice none 0 0/\d=1)∨(aU w down d L/\1<d))/\Nat.gcd n d=1/\(neg=true->0<n)
theorem FV.keep0 {w w':World} {v:Value} {neg:Bool} {n d L:Nat} (h:FV w v neg n d L) (hg:w.grownBy w' none):FV w' v neg n d L:=by
 obtain ⟨up,down,e,h1,h2,h3,h4⟩:=h;refine ⟨up,down,e,h1.keep0 hg,?_,h3,h4⟩;rcases h2 with h2 | ⟨h2,h5⟩
 ·exact .inl h2
 ·exact .inr ⟨h2.keep0 hg,h5⟩
def fW (w:World) (neg:Bool) (n d L:Nat) (e:Ending) (w':World):Prop:=∃ v,e=.returned v/\FV w' v neg n d L/\w.grownBy w' none
theorem um (below:Bool) (u d:Value) (n m L:Nat) (w:World) (hu:aU w u n L) (hd:aU w d m L) (h0:n=0∨m=0) :
  Calls Tryz.prog 130 #[.bool below,u,d] w fun e w'=>fW w false 0 1 L e w':=by
 obtain ⟨uo,ul,uc,rfl,u1,u2,u3⟩:=hu.shape;obtain ⟨do_,dl,dc,rfl,d1,d2,d3⟩:=hd.shape;unfold maxLen at u3 d3;have hz:ul=0∨dl=0:=by
  rcases h0 with h | h
  ·exact .inl (u1.2 h)
  ·exact .inr (d1.2 h)
 clear u1 d1 h0 hu hd;have hend:fW w false 0 1 L (.returned (.agg #[.bool false,.slice none 0 0,.slice none 0 0])) (w.alloc (Obj.cells #[Value.bool false,Value.slice none 0 0,Value.slice none 0 0] 91)) :=
  ⟨_,rfl,⟨_,_,rfl,⟨[],Ws.nil _,rfl,rfl,by simp⟩,.inl ⟨rfl,rfl⟩,rfl,by simp⟩,ag (ae _ _) _⟩
 have HEND:=ab hend;clear hend;by_cases hz1:ul=0
 ·subst hz1;clear hz;go_enter Tryz.func130,Tryz.ntmps130
  go_wp2;exact bodyPost_ret (v:=.agg #[.bool false,.slice none 0 0,.slice none 0 0]) (by simp [results,Tryz.results130,go_sem]) rfl HEND.out
 ·obtain rfl:dl=0:=by omega
  have hb:(((ul:Nat):Int)==0)=false:=beq_eq_false_iff_ne.2 (by omega);clear hz hz1;go_enter Tryz.func130,Tryz.ntmps130
  go_wp2;exact bodyPost_ret (v:=.agg #[.bool false,.slice none 0 0,.slice none 0 0]) (by simp [results,Tryz.results130,go_sem]) rfl HEND.out
def bO (w:World) (g:Nat):Prop:=∀ i (x:Nat),w.cell? ⟨g,i,none⟩≠some (.int .u32 (x:Nat))
theorem bu {w W:World} {b:Bool} (h:(w.alloc (Obj.cells #[.bool b,.slice none 0 0,.slice none 0 0] 91)).grownBy W none):bO W w.heap.size:=by
 have e:W.heap[w.heap.size]? = some (Obj.cells #[.bool b,.slice none 0 0,.slice none 0 0] 91 (0,0)):=by
  rw [h.block w.heap.size (by simp) (by simp)];exact heap_alloc_new w _
 intro i x;match i with
 | 0=>simp [World.cell?,e]
 | 1=>simp [World.cell?,e]
 | 2=>simp [World.cell?,e]
 | i+3=>simp [World.cell?,e]
theorem aU.other {w w':World} {v:Value} {n L g:Nat} (h:aU w v n L) (hg:bO w g) (hgr:w.grownBy w' (some g)):aU w' v n L:=by
 obtain ⟨xs,h1,h2,h3,h4⟩:=h;refine ⟨xs,?_,h2,h3,h4⟩;by_cases h0:xs.length=0
 ·refine ⟨h1.sm,?_⟩;rcases h1.sh with h | ⟨b,off,cap,rfl,hb,hl,hm,hc⟩
  ·exact .inl h
  ·exact .inr ⟨b,off,cap,rfl,Nat.lt_of_lt_of_le hb hgr.size,hl,hm,fun i hi=>by omega⟩
 ·refine h1.keep hgr ?_;intro k e hk;cases e
  obtain ⟨ao,cap,rfl,_,_,hc⟩:=h1.open;obtain ⟨b,off,rfl,_,hcell⟩:=hc 0 (by omega);simp [az] at hk;subst hk;exact hg _ _ hcell
theorem aV {w W:World} {b:Value} {u v:Value} (h:(w.alloc (Obj.cells #[b,u,v] 91)).grownBy W none) :
  W.cell? ⟨w.heap.size,0,none⟩=some b/\W.cell? ⟨w.heap.size,1,none⟩=some u/\W.cell? ⟨w.heap.size,2,none⟩=some v/\(∀ i,W.frozen? ⟨w.heap.size,i,none⟩=false):=by
 have e:W.heap[w.heap.size]? = some (Obj.cells #[b,u,v] 91 (0,0)):=by
  rw [h.block w.heap.size (by simp) (by simp)];exact heap_alloc_new w _
 refine ⟨?_,?_,?_,fun i=>?_⟩<;>simp [World.cell?,World.frozen?,e]
theorem rt {n m:Nat} (h:n % m=0) (hm:0<m):n / Nat.gcd n m=n / m/\m / Nat.gcd n m=1:=by
 rw [Nat.gcd_eq_right (Nat.dvd_of_mod_eq_zero h)];exact ⟨rfl,Nat.div_self hm⟩
theorem BZ {n m:Nat} (h:n % m≠0) (hm:0<m):1<m / Nat.gcd n m:=by
 have hd:Nat.gcd n m∣m:=Nat.gcd_dvd_right n m;have hG:0<Nat.gcd n m:=Nat.gcd_pos_of_pos_right _ hm;have h1:0<m / Nat.gcd n m:=Nat.div_pos (Nat.gcd_le_right _ hm) hG;rcases Nat.lt_or_ge 1 (m / Nat.gcd n m) with h2 | h2
 ·exact h2
 ·exfalso
  have e:m / Nat.gcd n m=1:=by omega
  have e2:m=Nat.gcd n m:=by
   have:=Nat.div_mul_cancel hd;rw [e,Nat.one_mul] at this;exact this.symm
  have hdn:m∣n:=by rw [e2];exact Nat.gcd_dvd_left n m
  exact h (Nat.mod_eq_zero_of_dvd hdn)
def OverE (w:World) (n L:Nat) (e:Ending) (w':World):Prop:=∃ v,e=.returned v/\aU w' v n L/\w.grownBy w' none
theorem fM (x y:Value) (n G L:Nat) (w:World) (hx:aU w x n L) (hy:aU w y G L) (h0:0<G) (hl:L<=8000000000000) :
  Calls Tryz.prog 137 #[x,y] w fun e w'=>OverE w (n / G) L e w':=by
 obtain ⟨uo,ul,uc,rfl,u1,u2,u3⟩:=hx.shape;obtain ⟨do_,dl,dc,rfl,d1,d2,d3⟩:=hy.shape;have HX:=ab hx;have HY:=ab hy;clear hx hy u1 d1;by_cases h1:G=1
 ·have HH1:=ab h1;clear h1;go_enter Tryz.func137,Tryz.ntmps137
  go_wp2_with fail;refine (rp _ L _ (by have:=HY.out;rw [HH1.out] at this;exact this)).mono ?_;rintro e w2 ⟨rfl,rfl⟩;go_wp2;go_ret;exact ⟨_,rfl,by rw [HH1.out,Nat.div_one];exact HX.out,ae _ _⟩
 ·have HH1:=ab h1;clear h1;go_enter Tryz.func137,Tryz.ntmps137
  go_wp2_with fail;refine (ud _ G L _ HY.out HH1.out).mono ?_;rintro e w2 ⟨rfl,rfl⟩;go_wp2_with fail;refine (jg _ _ n G L L _ HX.out HY.out h0 (by omega)).mono ?_;intro e w6 hD;obtain ⟨q,r,rfl,k1,k2,k3,k4,k5⟩:=hD;obtain ⟨qo,ql,qc,rfl,_,_,_⟩:=k1.shape;obtain ⟨ro,rl,rc,rfl,_,_,_⟩:=k2.shape;have M1:=ab k1;have M3:=ab k3;clear k1 k2 k3 k4 k5;go_wp2;go_ret;exact ⟨_,rfl,M1.out,M3.out⟩
theorem bF {w:World} {g:Nat} {a b c:Value} : w.grownBy (((w.setCell ⟨g,0,none⟩ a).setCell ⟨g,1,none⟩ b).setCell ⟨g,2,none⟩ c) (some g) :=
 eD (eD (eD (ae _ _) g 0 _ rfl) g 1 _ rfl) g 2 _ rfl
theorem pq {w W:World} {g n d L:Nat} {below:Bool} {u v:Value} (hg:g=w.heap.size) (hw:w.grownBy W none) (hu:aU W u n L) (hv:(v=.slice none 0 0/\d=1)∨(aU W v d L/\1<d)) (nw:bO W g) (hc:Nat.gcd n d=1) (hn:0<n) :
  fW w below n d L (.returned (.agg #[.bool below,u,v])) (((W.setCell ⟨g,0,none⟩ (.bool below)).setCell ⟨g,1,none⟩ u).setCell ⟨g,2,none⟩ v):=by
 refine ⟨_,rfl,⟨u,v,rfl,hu.other nw bF,?_,hc,fun _=>hn⟩,?_⟩
 ·rcases hv with h | ⟨h,h1⟩
  ·exact .inl h
  ·exact .inr ⟨h.other nw bF,h1⟩
 ·subst hg;exact ai (ai (ai hw _ _ (Nat.le_refl _)) _ _ (Nat.le_refl _)) _ _ (Nat.le_refl _)
theorem wS (below:Bool) (u d:Value) (n m L:Nat) (w:World) (hu:aU w u n L) (hd:aU w d m L) (hn:0<n) (hm:0<m) (hl:L<=8000000000000) :
  Calls Tryz.prog 130 #[.bool below,u,d] w fun e w'=>fW w below (n / Nat.gcd n m) (m / Nat.gcd n m) L e w':=by
 obtain ⟨uo,ul,uc,rfl,u1,u2,u3⟩:=hu.shape;obtain ⟨do_,dl,dc,rfl,d1,d2,d3⟩:=hd.shape;unfold maxLen at u3 d3;have hul:0<ul:=by
  rcases Nat.eq_zero_or_pos ul with h | h
  ·have:=u1.1 h;omega
  ·exact h
 have hdl:0<dl:=by
  rcases Nat.eq_zero_or_pos dl with h | h
  ·have:=d1.1 h;omega
  ·exact h
 have hb1:(((ul:Nat):Int)==0)=false:=beq_eq_false_iff_ne.2 (by omega);have hb2:(((dl:Nat):Int)==0)=false:=beq_eq_false_iff_ne.2 (by omega);have HU:=ab hu;have HD:=ab hd;have hnG:Hid (0<n / Nat.gcd n m):=Nat.div_pos (Nat.gcd_le_left _ hn) (Nat.gcd_pos_of_pos_left _ hn);have hcop:Hid (Nat.gcd (n / Nat.gcd n m) (m / Nat.gcd n m)=1):=by
  show _=_
  rw [Nat.gcd_div (Nat.gcd_dvd_left n m) (Nat.gcd_dvd_right n m),Nat.div_self (Nat.gcd_pos_of_pos_left _ hn)]
 obtain ⟨A,hA⟩:∃ A,A=n / Nat.gcd n m:=⟨_,rfl⟩;obtain ⟨B,hB⟩:∃ B,B=m / Nat.gcd n m:=⟨_,rfl⟩;rw [<- hA] at hnG hcop ⊢;rw [<- hB] at hcop ⊢;have EA:=ab hA;have EB:=ab hB;clear hu hd u1 d1 hA hB;go_enter Tryz.func130,Tryz.ntmps130
 go_wp2_with fail;have g1:w.grownBy (w.alloc (Obj.cells #[Value.bool false,Value.slice none 0 0,Value.slice none 0 0] 91)) none:=ag (ae w none) _;have G1:=ab g1;clear g1;refine (jg _ _ n m L L _ (HU.out.keep0 G1.out) (HD.out.keep0 G1.out) hm (by omega)).mono ?_;intro e w3 hD;obtain ⟨q,r,rfl,k1,k2,k3,k4,k5⟩:=hD;obtain ⟨qo,ql,qc,rfl,_,_,_⟩:=k1.shape;obtain ⟨ro,rl,rc,rfl,r1,r2,r3⟩:=k2.shape;unfold maxLen at r3;have N1:=ab k1;have N2:=ab k2;have N3:=ab k3;have G3:=ab (aa G1.out N3.out);clear k1 k2 k3 k4 k5;by_cases h2:rl=0
 ·have hr0:Hid (n % m=0):=r1.1 h2;have bb:(((rl:Nat):Int)==0)=true:=beq_iff_eq.2 (by omega);clear h2 r1;obtain ⟨c0,c1,c2,cf⟩:=aV N3.out;have cf0:=cf 0;have cf1:=cf 1;have cf2:=cf 2;clear cf;go_wp2;refine bodyPost_ret (v:=.agg #[.bool below,.slice qo ql qc,.slice none 0 0]) (by simp [results,Tryz.results130,go_sem,c0,c1,c2]) rfl ?_;refine pq rfl G3.out ?_ (.inl ⟨rfl,?_⟩) (bu N3.out) hcop.out hnG.out
  ·rw [EA.out,(rt hr0.out hm).1];exact N1.out
  ·rw [EB.out,(rt hr0.out hm).2]
 ·have hr0:Hid (n % m≠0):=fun e=>h2 (r1.2 e)
  have bb:(((rl:Nat):Int)==0)=false:=beq_eq_false_iff_ne.2 (by omega);have hB1:Hid (1<B):=by show 1<B;rw [EB.out];exact BZ hr0.out hm
  clear h2 r1;obtain ⟨xs0,x1,x2,x3,x4⟩:=HD.out.keep0 G3.out;obtain ⟨ys0,y1,y2,y3,y4⟩:=N2.out;obtain ⟨G,hG⟩:∃ G,G=Nat.gcd n m:=⟨_,rfl⟩;have hGe:Nat.gcd (ak xs0) (ak ys0)=G:=by rw [x3,y3,hG,Nat.gcd_comm,<- Nat.gcd_rec,Nat.gcd_comm]
  have hG0:0<G:=by rw [hG];exact Nat.gcd_pos_of_pos_left _ hn
  have CD:=ab (iO _ _ xs0 ys0 _ x1 y1 x2 y2 (by omega) L x4 y4 (by omega));rw [hGe] at CD;have HG:=ab hG;clear x1 x2 x3 x4 y1 y2 y3 y4 hGe hG;go_wp2_with fail;refine CD.out.mono ?_;rintro e w4 ⟨g,rfl,k1,k2⟩;obtain ⟨go,gl,gc,rfl,_,_,_⟩:=k1.shape;have K1:=ab k1;have K2:=ab k2;have G4:=ab (aa G3.out K2.out);have N34:=ab (aa N3.out K2.out);clear k1 k2;go_wp2_with fail;refine (fM _ _ n G L _ (HU.out.keep0 G4.out) K1.out hG0 (by omega)).mono ?_;rintro e w6 ⟨q1,rfl,k1,k3⟩;obtain ⟨qo1,ql1,qc1,rfl,_,_,_⟩:=k1.shape;have M1:=ab k1;have M3:=ab k3;clear k1 k3;go_wp2_with fail;refine (fM _ _ m G L _ (HD.out.keep0 (aa G4.out M3.out)) (K1.out.keep0 M3.out) hG0 (by omega)).mono ?_;rintro e w7 ⟨q2,rfl,k1,k3⟩;obtain ⟨qo2,ql2,qc2,rfl,_,_,_⟩:=k1.shape;have P1:=ab k1;have P3:=ab k3;clear k1 k3;have K7:=ab (aa N34.out (aa M3.out P3.out));have G7:=ab (aa G4.out (aa M3.out P3.out));obtain ⟨c0,c1,c2,cf⟩:=aV K7.out;have cf0:=cf 0;have cf1:=cf 1;have cf2:=cf 2;clear cf;go_wp2;refine bodyPost_ret (v:=.agg #[.bool below,.slice qo1 ql1 qc1,.slice qo2 ql2 qc2]) (by simp [results,Tryz.results130,go_sem,c0,c1,c2]) rfl ?_;refine pq rfl G7.out ?_ (.inr ⟨?_,hB1.out⟩) (bu K7.out) hcop.out hnG.out
  ·rw [EA.out,<- HG.out];exact M1.out.keep0 P3.out
  ·rw [EB.out,<- HG.out];exact P1.out
def kS (c:UInt8):Bool:=48<=c.toNat && c.toNat<=57
def nW (l:List UInt8):Nat:=(l.takeWhile kS).length
theorem runD_le (l:List UInt8):nW l<=l.length:=by
 unfold nW;have:=(List.takeWhile_prefix kS (l:=l)).length_le;exact this
theorem kK (c:UInt8) (l:List UInt8):nW (c :: l)=if kS c then nW l+1 else 0:=by
 unfold nW;rw [List.takeWhile_cons];split<;>simp
theorem zw (s:ByteArray) (k:Nat) (h:k<s.size):s.data.toList.drop k=s[k] :: s.data.toList.drop (k+1):=by
 rw [List.drop_eq_getElem_cons (by simpa using h)];rfl
def EndR (s:ByteArray) (E:Nat) (v:Value):Prop:=∃ k:Nat,k<=s.size/\v=.int .i64 k/\Hid (k+nW (s.data.toList.drop k)=E)
theorem si (s:ByteArray) (k0:Nat) (w:World) (hs:s.size<=10000000000000) (hk0:k0<=s.size) :
  Calls Tryz.prog 159 #[.string s,.int .i64 (k0:Nat)] w fun e w'=>e=.returned (.int .i64 ((k0+nW (s.data.toList.drop k0):Nat):Int))/\w'=w:=by
 obtain ⟨E,hE⟩:∃ E,k0+nW (s.data.toList.drop k0)=E:=⟨_,rfl⟩;rw [hE];have HE:=ab hE;clear hE;go_enter Tryz.func159,Tryz.ntmps159
 go_wp2;go_loop [1] (fun v=>EndR s E v) (fun v=>s.size-(intOf v).toNat)
 case atStart=>exact ⟨k0,hk0,rfl,HE.out⟩
 case round =>
  obtain ⟨k,hk,rfl,HK⟩:=hrel;by_cases hlt:k<s.size
  ·have hd:=zw s k hlt;have HDR:=ab hd;clear hd;by_cases h1:48<=s[k].toNat
   ·by_cases h2:s[k].toNat<=57
    ·have h1':(48:Int)<=(s[k].toNat:Int):=by omega
     have h2':(s[k].toNat:Int)<=57:=by omega
     go_wp2;go_round
     case rel =>
      refine ⟨k+1,by omega,by go_num,?_⟩;have:=HK.out;rw [HDR.out,kK,if_pos (by simp [kS,h1,h2])] at this;show _=_
      omega
     case measure=>simp [intOf];omega
    ·have h1':(48:Int)<=(s[k].toNat:Int):=by omega
     have h2':¬ (s[k].toNat:Int)<=57:=by omega
     go_wp2;go_ret;refine ⟨?_,rfl⟩;have:=HK.out;rw [HDR.out,kK,if_neg (by simp [kS,h2])] at this;rw [<- this];rfl
   ·have h1':¬ (48:Int)<=(s[k].toNat:Int):=by omega
    go_wp2;go_ret;refine ⟨?_,rfl⟩;have:=HK.out;rw [HDR.out,kK,if_neg (by simp [kS,h1])] at this;rw [<- this];rfl
  ·obtain rfl:k=s.size:=by omega
   go_wp2;go_ret;refine ⟨?_,rfl⟩;have:=HK.out;rw [List.drop_of_length_le (by simp)] at this;rw [<- this];rfl
def bU (l:List UInt8):Bool:=!l.isEmpty && l.all kS
theorem CR (l:List UInt8):(nW l=l.length)↔l.all kS=true:=by
 induction l with
 | nil=>simp [nW]
 | cons c r ih =>
  rw [kK];by_cases h:kS c
  ·simp [h,ih]
  ·simp [h]
theorem cn (s:ByteArray) (w:World) (hs:s.size<=10000000000000) :
  Calls Tryz.prog 129 #[.string s] w fun e w'=>e=.returned (.bool (bU s.data.toList))/\w'=w:=by
 by_cases h0:s.size=0
 ·have e:s=⟨#[]⟩:=by
   cases s with
   | mk d=>cases d with
    | mk l =>
     cases l with
     | nil=>rfl
     | cons a b=>simp [ByteArray.size] at h0
  subst e;go_enter Tryz.func129,Tryz.ntmps129
  go_wp2;go_ret;exact ⟨rfl,rfl⟩
 ·have hne:¬ s.toList=[]:=by
   intro e;apply h0;rw [ByteArray.toList_eq] at e;rw [Lib.size_eq,e];rfl
  have HAL:Hid (bU s.data.toList=decide (nW s.data.toList=s.size)):=by
   show _=_
   rw [Bool.eq_iff_iff,decide_eq_true_eq];have:=CR s.data.toList;rw [Array.length_toList] at this;rw [show s.size=s.data.size from rfl,this];unfold bU;have h1:s.data.toList.isEmpty=false:=by
    cases hl:s.data.toList with
    | nil =>
     exfalso
     apply h0;show s.data.size=0
     rw [<- Array.length_toList,hl];rfl
    | cons a b=>rfl
   simp [h1]
  have hrl:=runD_le s.data.toList;rw [Array.length_toList,show s.data.size=s.size from rfl] at hrl;go_enter Tryz.func129,Tryz.ntmps129
  go_wp2_with fail;refine (si s 0 _ hs (Nat.zero_le _)).mono ?_;rintro e w1 ⟨rfl,rfl⟩;rw [Nat.zero_add,List.drop_zero];have HB:=HAL.out;generalize nW s.data.toList=r at hrl HB ⊢;have HC:=ab HB;have HNE:=ab hne;clear HB HAL hne;go_wp2;go_ret;refine ⟨?_,rfl⟩;rw [HC.out];show Ending.returned (.bool (!s.toList.isEmpty && ((r:Int)==(s.size:Int))))=_
  have h1:s.toList.isEmpty=false:=by
   cases hl:s.toList with
   | nil=>exact absurd hl HNE.out
   | cons a b=>rfl
  rw [h1];congr 2
  rw [Bool.eq_iff_iff];simp;omega
def aZ (l:List UInt8):Nat:=l.foldl (fun a c=>a*10+(c.toNat-48)) 0
theorem Bk (l:List UInt8) (a:Nat):l.foldl (fun a (c:UInt8)=>a*10+(c.toNat-48)) a=a*10^l.length+aZ l:=by
 unfold aZ;induction l generalizing a with
 | nil=>simp
 | cons c r ih =>
  rw [List.foldl_cons,ih,List.foldl_cons,ih (0*10+(c.toNat-48))];simp only [List.length_cons,Nat.pow_succ,Nat.zero_mul,Nat.zero_add,Nat.add_mul];rw [Nat.mul_assoc,Nat.mul_comm 10];omega
theorem lr (l r:List UInt8):aZ (l++r)=aZ l*10^r.length+aZ r:=by
 have:aZ (l++r)=r.foldl (fun a (c:UInt8)=>a*10+(c.toNat-48)) (aZ l):=by simp [aZ,List.foldl_append]
 rw [this,Bk]
theorem oU (l:List UInt8) (c:UInt8):aZ (l++[c])=aZ l*10+(c.toNat-48):=by simp [aZ]
theorem sd (l:List UInt8) (h:∀ c∈l,kS c=true):aZ l<10^l.length:=by
 have key:∀ (n:Nat) (l:List UInt8),l.length=n->(∀ c∈l,kS c=true)->aZ l<10^l.length:=by
  intro n;induction n with
  | zero=>intro l hl _;have:l=[]:=List.eq_nil_of_length_eq_zero hl;subst this;simp [aZ]
  | succ n ih =>
   intro l hl h;have hne:l≠[]:=by intro e;subst e;simp at hl
   obtain ⟨F,p,rfl⟩:∃ F p,l=F++[p]:=⟨l.dropLast,l.getLast hne,(List.dropLast_concat_getLast hne).symm⟩;have h1:=ih F (by simpa using hl) (fun c hc=>h c (by simp [hc]));have h2:=h p (by simp);unfold kS at h2;rw [Bool.and_eq_true,decide_eq_true_eq,decide_eq_true_eq] at h2;rw [oU,List.length_append,List.length_singleton,Nat.pow_succ];omega
 exact key l.length l rfl h
theorem rL (s:ByteArray) (k:Nat) (h:k<s.size):s.data.toList.take (k+1)=s.data.toList.take k++[s[k]]:=by
 rw [List.take_succ_eq_append_getElem (by simpa using h)];rfl
theorem ky (r:ByteArray) (i:Nat) (h:i<=r.size):(r.extract i r.size).data.toList=r.data.toList.drop i/\(r.extract i r.size).size=r.size-i:=by
 have e:(r.extract i r.size).data.toList=r.data.toList.drop i:=by
  rw [ByteArray.data_extract,Array.toList_extract];show List.take (r.data.size-i) _=_
  rw [List.take_of_length_le (by simp)]
 refine ⟨e,?_⟩;rw [Lib.size_eq,e,List.length_drop,Lib.size_eq]
theorem Ap (X D c i n:Nat) (l:List UInt8) (hl:l.length=n) (hi:i<=n) (hc:c=aZ (l.take i)) (h:X*10^n+aZ l=D) (h9:X=0∨i=9):(X*1000000000+c)*10^(n-i)+aZ (l.drop i)=D:=by
 have e:=lr (l.take i) (l.drop i);rw [List.take_append_drop,List.length_drop,hl,<- hc] at e;rw [<- h,e,Nat.add_mul,<- Nat.add_assoc];congr 2
 rcases h9 with h9 | h9
 ·rw [h9];simp
 ·rw [Nat.mul_assoc];congr 1
  rw [show (1000000000:Nat)=10^9 from rfl,<- Nat.pow_add];congr 1
  omega
def ReadR (w:World) (D N:Nat) (dv ov:Value) (wr:World):Prop :=
 ∃ (r:ByteArray) (xs:List Nat),dv=.string r/\gB wr w.heap.size ov xs/\Sm xs/\Tr xs/\w.grownBy wr none/\xs.length+r.size<=N/\ak xs*10^r.size+aZ r.data.toList=D/\(∀ c∈r.data.toList,kS c=true)/\(ak xs=0∨r.size % 9=0)
def sizeOfS:Value->Nat
 | .string s=>s.size
 | _=>0
def ChunkR (r:ByteArray) (cv iv:Value) (k:Nat):Prop:=∃ i c:Nat,i<=k/\iv=.int .i64 i/\cv=.int .u32 c/\Hid (c=aZ (r.data.toList.take i))
theorem jt (s:ByteArray) (w:World) (hs:s.size<=7000000000000) (hd:∀ c∈s.data.toList,kS c=true) :
  Calls Tryz.prog 131 #[.string s] w fun e w'=>∃ v,e=.returned v/\aU w' v (aZ s.data.toList) s.size/\w.grownBy w' none/\bA w v:=by
 have HD:=ab hd;clear hd;go_enter Tryz.func131,Tryz.ntmps131
 go_wp2;go_loopw [0,3] (fun dv ov wr=>Hid (ReadR w (aZ s.data.toList) s.size dv ov wr)) (fun dv _ _=>sizeOfS dv)
 case atStart=>exact ⟨s,[],rfl,oh _ _,Sm.nil,rfl,ae _ _,by simp,by simp [ak],HD.out,.inl rfl⟩
 case round =>
  obtain ⟨r,xs,rfl,h1,h2,h3,h4,h5,h6,h7,h8⟩:=hrel.out;obtain ⟨ao,cap,ev,hc1,hc2,_⟩:=h1.open;subst ev;have H1:=ab h1;have H2:=ab h2;have H3:=ab h3;have H4:=ab h4;have H6:=ab h6;have H7:=ab h7;have H8:=ab h8;clear h1 h2 h3 h4 h6 h7 h8 hrel;by_cases hr:0<r.size
  ·obtain ⟨k,hk⟩:∃ k,k=(r.size-1) % 9+1:=⟨_,rfl⟩;have hk1:1<=k:=by omega
   have hk2:k<=9:=by omega
   have hk3:k<=r.size:=by omega
   have hk':(((r.size:Int)-1) % 9+1)=(k:Int):=by omega
   have hk'':(((r.size:Int)-1).tmod 9+1)=(k:Int):=by rw [Int.tmod_eq_emod_of_nonneg (by omega)];exact hk'
   have HK:=ab hk;clear hk;go_wp2;go_loop [5,16] (fun cv iv=>ChunkR r cv iv k) (fun _ iv=>k-(intOf iv).toNat)
   case atStart=>exact ⟨0,0,by omega,rfl,rfl,by simp [aZ,Hid]⟩
   case round =>
    obtain ⟨i,c,hi,rfl,rfl,HC⟩:=hrel;by_cases hlt:i<k
    ·have hib:i<r.size:=by omega
     have hdig:kS r[i]=true:=H7.out _ (by
      have:r[i]=r.data.toList[i]'(by simpa using hib):=rfl;rw [this];exact List.getElem_mem _)
     unfold kS at hdig;rw [Bool.and_eq_true,decide_eq_true_eq,decide_eq_true_eq] at hdig;obtain ⟨hd1,hd2⟩:=hdig;have hcb:c<=99999999:=by
      have h9:=sd (r.data.toList.take i) (fun c hc=>H7.out c (List.mem_of_mem_take hc));rw [<- HC.out,List.length_take] at h9;have h10:10^min i r.data.toList.length<=10^8:=Nat.pow_le_pow_right (by decide) (by omega);omega
     have HTB:=ab (rL r i hib);clear hk' hk'';go_wp2;go_round
     case rel =>
      refine ⟨i+1,c*10+(r[i].toNat-48),by omega,by go_num,by go_num,?_⟩;show _=_
      rw [HTB.out,oU,<- HC.out]
     case measure=>simp [intOf];omega
    ·obtain rfl:i=k:=by omega
     have hcb:c<=999999999:=by
      have h9:=sd (r.data.toList.take i) (fun c hc=>H7.out c (List.mem_of_mem_take hc));rw [<- HC.out,List.length_take] at h9;have h10:10^min i r.data.toList.length<=10^9:=Nat.pow_le_pow_right (by decide) (by omega);omega
     clear hk' hk'';go_wp2_with fail;refine (BK _ xs 1000000000 c _ w.heap.size H1.out H2.out (by omega) (by omega) (by omega) H4.out.size).mono ?_;rintro e w2 ⟨v',rfl,hgrown⟩;obtain ⟨go,gc,gl,rfl⟩:∃ go gc gl,v'=.slice go gl gc:=by
      obtain ⟨_,o1,_⟩:=hgrown;obtain ⟨go,gc,e,_⟩:=o1.open;exact ⟨_,_,_,e⟩
     have HGR:=ab hgrown;clear hgrown;obtain ⟨hb1,hb2⟩:=ky r i hk3;have HB1:=ab hb1;have HB2:=ab hb2;clear hb1 hb2;go_wp2;refine ⟨?_,?_⟩
     ·obtain ⟨ys,o1,o2,o3,o4,o5,o6⟩:=HGR.out;have hk:=HK.out;refine ⟨r.extract i r.size,ys,rfl,o1,o2,o6 H3.out (by decide),aq (r2:=az (.slice ao xs.length cap)) H4.out o5 (fun _ _ e=>e) (fun b hb e=>by have:=(H1.out.fresh b e.symm).1;omega),?_,?_,?_,.inr ?_⟩
      ·rw [HB2.out];omega
      ·rw [HB2.out,HB1.out,o3];refine Ap (ak xs) _ c i r.size r.data.toList (by rw [Lib.size_eq]) hk3 HC.out H6.out ?_;rcases H8.out with h | h
       ·exact .inl h
       ·right;omega
      ·rw [HB1.out];intro c hc;exact H7.out c (List.mem_of_mem_drop hc)
      ·rw [HB2.out];omega
     ·show (r.extract i r.size).size<r.size
      rw [HB2.out];omega
  ·have hr0:r.size=0:=by omega
   have hrl:r.data.toList=[]:=List.eq_nil_of_length_eq_zero (by rw [<- Lib.size_eq];exact hr0);have HRL:=ab hrl;have HR0:=ab hr0;clear hrl hr0;go_wp2;go_ret;refine ⟨_,rfl,?_,H4.out,H1.out.fr⟩;have h6:=H6.out;rw [HR0.out,HRL.out] at h6;have:ak xs=aZ s.data.toList:=by
    rw [<- h6];simp [aZ]
   rw [<- this];exact H1.out.num H2.out H3.out _ (by omega)
def bn (b:Bool) (n d:Nat):Bool×Nat×Nat:=if n=0∨d=0 then (false,0,1) else (b,n / Nat.gcd n d,d / Nat.gcd n d)
def ei (l:List UInt8):List UInt8:=if (Lib.cut l [47]).2.2 then (Lib.cut l [47]).2.1 else [49]
def im (l:List UInt8):Bool×Nat×Nat :=
 if bU (Lib.cut (Lib.trimPrefix l [45]) [47]).1 && bU (ei (Lib.trimPrefix l [45])) then
  bn (Lib.hasPrefix l [45]) (aZ (Lib.cut (Lib.trimPrefix l [45]) [47]).1) (aZ (ei (Lib.trimPrefix l [45])))
 else (false,0,1)
theorem jY (l sep:List UInt8):(Lib.cut l sep).1.length<=l.length/\(Lib.cut l sep).2.1.length<=l.length:=by
 unfold Lib.cut;split
 ·simp only [List.length_take,List.length_drop];omega
 ·simp
theorem iJ (l p:List UInt8):(Lib.trimPrefix l p).length<=l.length:=by
 unfold Lib.trimPrefix;split
 ·simp
 ·exact Nat.le_refl _
theorem sL (l:List UInt8):(⟨l.toArray⟩:ByteArray).size=l.length:=by simp [ByteArray.size]
theorem dj {l:List UInt8} (h:bU l=true):∀ c∈l,kS c=true:=by
 unfold bU at h;rw [Bool.and_eq_true] at h;exact fun c hc=>List.all_eq_true.1 h.2 c hc
def OfE (w:World) (l:List UInt8) (L:Nat) (e:Ending) (w':World):Prop:=∃ v,e=.returned v/\FV w' v (im l).1 (im l).2.1 (im l).2.2 L/\w.grownBy w' none
theorem mR (below:Bool) (u d:Value) (n m L:Nat) (w:World) (hu:aU w u n L) (hd:aU w d m L) (hl:L<=8000000000000) :
  Calls Tryz.prog 130 #[.bool below,u,d] w fun e w'=>fW w (bn below n m).1 (bn below n m).2.1 (bn below n m).2.2 L e w':=by
 by_cases h:n=0∨m=0
 ·have e:bn below n m=(false,0,1):=by unfold bn;rw [if_pos h]
  rw [e];exact um below u d n m L w hu hd h
 ·have e:bn below n m=(below,n / Nat.gcd n m,m / Nat.gcd n m):=by unfold bn;rw [if_neg h]
  rw [e];exact wS below u d n m L w hu hd (by omega) (by omega) hl
theorem FV.other {w w':World} {v:Value} {neg:Bool} {n d L g:Nat} (h:FV w v neg n d L) (hg:bO w g) (hgr:w.grownBy w' (some g)):FV w' v neg n d L:=by
 obtain ⟨up,down,e,h1,h2,h3,h4⟩:=h;refine ⟨up,down,e,h1.other hg hgr,?_,h3,h4⟩;rcases h2 with h2 | ⟨h2,h5⟩
 ·exact .inl h2
 ·exact .inr ⟨h2.other hg hgr,h5⟩
theorem FV.shape {w:World} {v:Value} {neg:Bool} {n d L:Nat} (h:FV w v neg n d L):∃ uo ul uc do_ dl dc,v=.agg #[.bool neg,.slice uo ul uc,.slice do_ dl dc]:=by
 obtain ⟨up,down,e,h1,h2,h3,h4⟩:=h;obtain ⟨uo,ul,uc,rfl,_⟩:=h1.shape;rcases h2 with ⟨rfl,_⟩ | ⟨h2,_⟩
 ·exact ⟨_,_,_,_,_,_,e⟩
 ·obtain ⟨do_,dl,dc,rfl,_⟩:=h2.shape;exact ⟨_,_,_,_,_,_,e⟩
theorem og {w w':World} {l:List UInt8} {L:Nat} (h:im l=(false,0,1)) (hg:w.grownBy w' none):OfE w l L (.returned (.agg #[.bool false,.slice none 0 0,.slice none 0 0])) w':=by
 refine ⟨_,rfl,?_,hg⟩;rw [h];exact ⟨_,_,rfl,⟨[],Ws.nil _,rfl,rfl,by simp⟩,.inl ⟨rfl,rfl⟩,rfl,by simp⟩
theorem uC (s:ByteArray) (m:Int) (w:World) (hs:s.size<=600000000) (hml:w.cell? ⟨1,0,none⟩=some (.int .i64 m)) :
  Calls Tryz.prog 97 #[.string s] w fun e w'=>OfE w s.data.toList (s.size+1) e w':=by
 have hml2:(w.alloc (Obj.cells #[Value.bool false,Value.slice none 0 0,Value.slice none 0 0] 91)).cell? ⟨1,0,none⟩=some (.int .i64 m) :=
  (World.grownBy_alloc w _ none).cell hml (by simp)
 have HML:=ab hml2;clear hml hml2;go_enter Tryz.func97,Tryz.ntmps97
 go_wp2_with fail;refine (Tryz.strings_CutPrefix s ⟨#[45]⟩ _).mono ?_;rintro e w1 ⟨rfl,rfl⟩;rw [show (⟨#[45]⟩:ByteArray).data.toList=[45] from rfl];obtain ⟨d,hd⟩:∃ d:ByteArray,d=⟨(Lib.trimPrefix s.data.toList [45]).toArray⟩:=⟨_,rfl⟩;rw [<- hd];have hdl:Hid (d.data.toList=Lib.trimPrefix s.data.toList [45]):=by rw [hd];rfl
 have hdz:d.size<=s.size:=by rw [hd,sL,Lib.size_eq];exact iJ _ _
 clear hd;obtain ⟨neg,hneg⟩:∃ b:Bool,b=Lib.hasPrefix s.data.toList [45]:=⟨_,rfl⟩;rw [<- hneg];have HNEG:=ab hneg;clear hneg;go_wp2_with fail;refine (Tryz.strings_Cut d ⟨#[47]⟩ m _ (by omega) HML.out).mono ?_;rintro e w2 ⟨rfl,q2,rfl⟩;rw [show (⟨#[47]⟩:ByteArray).data.toList=[47] from rfl];obtain ⟨up,hup⟩:∃ u:ByteArray,u=⟨(Lib.cut d.data.toList [47]).1.toArray⟩:=⟨_,rfl⟩;obtain ⟨dn,hdn⟩:∃ u:ByteArray,u=⟨(Lib.cut d.data.toList [47]).2.1.toArray⟩:=⟨_,rfl⟩;obtain ⟨bar,hbar⟩:∃ b:Bool,b=(Lib.cut d.data.toList [47]).2.2:=⟨_,rfl⟩;rw [<- hup,<- hdn,<- hbar];have hul:Hid (up.data.toList=(Lib.cut d.data.toList [47]).1):=by rw [hup];rfl
 have hdl2:Hid (dn.data.toList=(Lib.cut d.data.toList [47]).2.1):=by rw [hdn];rfl
 have huz:up.size<=s.size:=by
  have:=(jY d.data.toList [47]).1;rw [hup,sL];rw [<- Lib.size_eq] at this;omega
 have hdz2:dn.size<=s.size:=by
  have:=(jY d.data.toList [47]).2;rw [hdn,sL];rw [<- Lib.size_eq] at this;omega
 have HBAR:=ab hbar;clear hup hdn hbar;have HSPEC:Hid (∀ x:ByteArray,x.data.toList=(if bar then dn.data.toList else [49])->im s.data.toList=if bU up.data.toList && bU x.data.toList then bn neg (aZ up.data.toList) (aZ x.data.toList) else (false,0,1)):=by
  intro x hx;have e:ei (Lib.trimPrefix s.data.toList [45])=x.data.toList:=by
   unfold ei;rw [hx,<- hdl.out,HBAR.out,hdl2.out]
  unfold im;rw [e,<- hdl.out,<- hul.out,<- HNEG.out]
 have G2:Hid (w.grownBy ((w.alloc (Obj.cells #[Value.bool false,Value.slice none 0 0,Value.slice none 0 0] 91)).drewN q2) none):=ar (ag (ae _ _) _) _;by_cases hbr:bar=true
 ·subst hbr;have HS:=ab (HSPEC.out dn (by simp));have hxz:dn.size<=s.size+1:=by omega
  by_cases ha:bU up.data.toList=true
  ·have HA:=ab ha;clear ha;by_cases hb:bU (dn).data.toList=true
   ·have HB:=ab hb;clear hb;go_wp2_with (first
     | (go_at_call_of 129 (Value.string up);refine (cn up _ (by omega)).mono ?_;rintro e w3 ⟨rfl,rfl⟩;rw [HA.out])
     | (go_at_call_of 129 (Value.string dn);refine (cn dn _ (by omega)).mono ?_;rintro e w3 ⟨rfl,rfl⟩;rw [HB.out]))
    refine (jt up _ (by omega) (dj HA.out)).mono ?_;rintro e w3 ⟨uv,rfl,n1,n2,n3⟩;have N1:=ab n1;have N2:=ab n2;have N3:=ab n3;obtain ⟨uo,ul,uc,rfl,_,_,_⟩:=n1.shape;clear n1 n2 n3;go_wp2_with fail;refine (jt (dn) _ (by omega) (dj HB.out)).mono ?_;rintro e w4 ⟨dv,rfl,m1,m2,m3⟩;have M1:=ab m1;have M2:=ab m2;have M3:=ab m3;obtain ⟨do_,dl,dc,rfl,_,_,_⟩:=m1.shape;clear m1 m2 m3;go_wp2_with fail;refine (mR neg _ _ _ _ (s.size+1) _ ((N1.out.keep0 M2.out).mono (by omega)) (M1.out.mono hxz) (by omega)).mono ?_;intro e w5 hL;obtain ⟨v,rfl,f1,f2⟩:=hL;have K5:=ab (aa (aj q2) (aa N2.out (aa M2.out f2)));have G5:=ab (aa G2.out (aa N2.out (aa M2.out f2)));have NW:=ab (bu K5.out);obtain ⟨uo5,ul5,uc5,do5,dl5,dc5,ev⟩:=f1.shape;have F1:=ab f1;obtain ⟨c0,c1,c2,cf⟩:=aV K5.out;have cf0:=cf 0;have cf1:=cf 1;have cf2:=cf 2;subst ev;have HS2:=HS.out;rw [HA.out,HB.out] at HS2;simp only [Bool.and_self,if_true] at HS2;have HS3:=ab HS2;obtain ⟨fneg,hfn⟩:∃ b:Bool,b=(bn neg (aZ up.data.toList) (aZ (dn).data.toList)).1:=⟨_,rfl⟩;rw [<- hfn];have HFN:=ab hfn;clear f1 f2 cf HS HS2 hfn;go_wp2;refine bodyPost_ret (v:=.agg #[.bool fneg,.slice uo5 ul5 uc5,.slice do5 dl5 dc5]) (by simp [results,Tryz.results97,go_sem,c0,c1,c2]) rfl ?_;refine ⟨_,rfl,?_,j6 G5.out bF (Nat.le_refl _)⟩;rw [HS3.out];have:=F1.out.other NW.out (bF (a:=.bool fneg) (b:=.slice uo5 ul5 uc5) (c:=.slice do5 dl5 dc5));rw [<- HFN.out] at this ⊢
    exact this
   ·have HB:Hid (bU (dn).data.toList=false):=ab (by simpa using hb);clear hb;have HS2:=HS.out;rw [HA.out,HB.out] at HS2;simp at HS2;have HS3:=ab HS2;clear HS2 HS;go_wp2_with (first
     | (go_at_call_of 129 (Value.string up);refine (cn up _ (by omega)).mono ?_;rintro e w3 ⟨rfl,rfl⟩;rw [HA.out])
     | (go_at_call_of 129 (Value.string dn);refine (cn dn _ (by omega)).mono ?_;rintro e w3 ⟨rfl,rfl⟩;rw [HB.out]))
    refine bodyPost_ret (v:=.agg #[.bool false,.slice none 0 0,.slice none 0 0]) (by simp [results,Tryz.results97,go_sem]) rfl ?_;exact og HS3.out (j6 G2.out bF (Nat.le_refl _))
  ·have HA:Hid (bU up.data.toList=false):=ab (by simpa using ha);clear ha;have HS2:=HS.out;rw [HA.out] at HS2;simp at HS2;have HS3:=ab HS2;clear HS2 HS;go_wp2_with (first
    | (go_at_call_of 129 (Value.string up);refine (cn up _ (by omega)).mono ?_;rintro e w3 ⟨rfl,rfl⟩;rw [HA.out]))
   refine bodyPost_ret (v:=.agg #[.bool false,.slice none 0 0,.slice none 0 0]) (by simp [results,Tryz.results97,go_sem]) rfl ?_;exact og HS3.out (j6 G2.out bF (Nat.le_refl _))
 ·obtain rfl:bar=false:=by simpa using hbr
  clear hbr;have HS:=ab (HSPEC.out (⟨#[49]⟩:ByteArray) (by rfl));have hxz:(⟨#[49]⟩:ByteArray).size<=s.size+1:=by have:(⟨#[49]⟩:ByteArray).size=1:=rfl;omega
  by_cases ha:bU up.data.toList=true
  ·have HA:=ab ha;clear ha;by_cases hb:bU ((⟨#[49]⟩:ByteArray)).data.toList=true
   ·have HB:=ab hb;clear hb;go_wp2_with (first
     | (go_at_call_of 129 (Value.string up);refine (cn up _ (by omega)).mono ?_;rintro e w3 ⟨rfl,rfl⟩;rw [HA.out])
     | (go_at_call_of 129 (Value.string (⟨#[49]⟩:ByteArray));refine (cn (⟨#[49]⟩:ByteArray) _ (by omega)).mono ?_;rintro e w3 ⟨rfl,rfl⟩;rw [HB.out]))
    refine (jt up _ (by omega) (dj HA.out)).mono ?_;rintro e w3 ⟨uv,rfl,n1,n2,n3⟩;have N1:=ab n1;have N2:=ab n2;have N3:=ab n3;obtain ⟨uo,ul,uc,rfl,_,_,_⟩:=n1.shape;clear n1 n2 n3;go_wp2_with fail;refine (jt ((⟨#[49]⟩:ByteArray)) _ (by omega) (dj HB.out)).mono ?_;rintro e w4 ⟨dv,rfl,m1,m2,m3⟩;have M1:=ab m1;have M2:=ab m2;have M3:=ab m3;obtain ⟨do_,dl,dc,rfl,_,_,_⟩:=m1.shape;clear m1 m2 m3;go_wp2_with fail;refine (mR neg _ _ _ _ (s.size+1) _ ((N1.out.keep0 M2.out).mono (by omega)) (M1.out.mono hxz) (by omega)).mono ?_;intro e w5 hL;obtain ⟨v,rfl,f1,f2⟩:=hL;have K5:=ab (aa (aj q2) (aa N2.out (aa M2.out f2)));have G5:=ab (aa G2.out (aa N2.out (aa M2.out f2)));have NW:=ab (bu K5.out);obtain ⟨uo5,ul5,uc5,do5,dl5,dc5,ev⟩:=f1.shape;have F1:=ab f1;obtain ⟨c0,c1,c2,cf⟩:=aV K5.out;have cf0:=cf 0;have cf1:=cf 1;have cf2:=cf 2;subst ev;have HS2:=HS.out;rw [HA.out,HB.out] at HS2;simp only [Bool.and_self,if_true] at HS2;have HS3:=ab HS2;obtain ⟨fneg,hfn⟩:∃ b:Bool,b=(bn neg (aZ up.data.toList) (aZ ((⟨#[49]⟩:ByteArray)).data.toList)).1:=⟨_,rfl⟩;rw [<- hfn];have HFN:=ab hfn;clear f1 f2 cf HS HS2 hfn;go_wp2;refine bodyPost_ret (v:=.agg #[.bool fneg,.slice uo5 ul5 uc5,.slice do5 dl5 dc5]) (by simp [results,Tryz.results97,go_sem,c0,c1,c2]) rfl ?_;refine ⟨_,rfl,?_,j6 G5.out bF (Nat.le_refl _)⟩;rw [HS3.out];have:=F1.out.other NW.out (bF (a:=.bool fneg) (b:=.slice uo5 ul5 uc5) (c:=.slice do5 dl5 dc5))
    rw [<- HFN.out] at this ⊢;exact this
   ·have HB:Hid (bU ((⟨#[49]⟩:ByteArray)).data.toList=false):=ab (by simpa using hb);clear hb;have HS2:=HS.out;rw [HA.out,HB.out] at HS2;simp at HS2;have HS3:=ab HS2;clear HS2 HS;go_wp2_with (first
     | (go_at_call_of 129 (Value.string up);refine (cn up _ (by omega)).mono ?_;rintro e w3 ⟨rfl,rfl⟩;rw [HA.out])
     | (go_at_call_of 129 (Value.string (⟨#[49]⟩:ByteArray));refine (cn (⟨#[49]⟩:ByteArray) _ (by omega)).mono ?_;rintro e w3 ⟨rfl,rfl⟩;rw [HB.out]))
    refine bodyPost_ret (v:=.agg #[.bool false,.slice none 0 0,.slice none 0 0]) (by simp [results,Tryz.results97,go_sem]) rfl ?_;exact og HS3.out (j6 G2.out bF (Nat.le_refl _))
  ·have HA:Hid (bU up.data.toList=false):=ab (by simpa using ha);clear ha;have HS2:=HS.out;rw [HA.out] at HS2;simp at HS2;have HS3:=ab HS2;clear HS2 HS;go_wp2_with (first
    | (go_at_call_of 129 (Value.string up);refine (cn up _ (by omega)).mono ?_;rintro e w3 ⟨rfl,rfl⟩;rw [HA.out]))
   refine bodyPost_ret (v:=.agg #[.bool false,.slice none 0 0,.slice none 0 0]) (by simp [results,Tryz.results97,go_sem]) rfl ?_;exact og HS3.out (j6 G2.out bF (Nat.le_refl _))
theorem aJ {w W:World} {u v x:Value} (h:(w.alloc (Obj.cells #[u,v,x] 91)).grownBy W none):W.cell? ⟨w.heap.size,0,none⟩=some u/\W.cell? ⟨w.heap.size,1,none⟩=some v/\W.cell? ⟨w.heap.size,2,none⟩=some x:=by
 have e:W.heap[w.heap.size]? = some (Obj.cells #[u,v,x] 91 (0,0)):=by
  rw [h.block w.heap.size (by simp) (by simp)];exact heap_alloc_new w _
 refine ⟨?_,?_,?_⟩<;>simp [World.cell?,e]
theorem yg (w:World):aU (w.alloc (Obj.cells #[Value.int IntKind.u32 1] 140)) (.slice (some ⟨w.heap.size,0,none⟩) 1 1) 1 1:=by
 have ha:ch (w.alloc (Obj.cells #[Value.int IntKind.u32 1] 140)) w.heap.size [1]:=by
  unfold ch;show (w.heap.push _)[w.heap.size]? = _
  rw [Array.getElem?_push_size];rfl
 exact ⟨[1],ha.ws (Sm.cons (by decide) Sm.nil) (by unfold maxLen;simp),by simp [Tr,aN],by simp [ak],by simp⟩
def NumE (w:World) (n L:Nat) (e:Ending) (w':World):Prop:=∃ v,e=.returned v/\aU w' v n L/\w.grownBy w' none
theorem gP (x:Value) (neg:Bool) (n d L:Nat) (w:World) (hx:FV w x neg n d L) :
  Calls Tryz.prog 136 #[x] w fun e w'=>NumE w d (L+1) e w':=by
 obtain ⟨up,down,rfl,h1,h2,h3,h4⟩:=hx;obtain ⟨uo,ul,uc,rfl,_⟩:=h1.shape;rcases h2 with ⟨rfl,rfl⟩ | ⟨h2,hd⟩
 ·clear h1 h3 h4;go_enter Tryz.func136,Tryz.ntmps136
  go_wp2;go_ret;have h1:=yg (w.alloc (Obj.cells #[.bool neg,.slice uo ul uc,.slice none 0 0] 91));have e1:(w.alloc (Obj.cells #[.bool neg,.slice uo ul uc,.slice none 0 0] 91)).heap.size=w.heap.size+1:=by simp
  rw [e1] at h1;exact ⟨_,rfl,aU.mono (L:=1) (L':=L+1) h1 (Nat.le_add_left 1 L),ag (ag (ae _ _) _) _⟩
 ·obtain ⟨do_,dl,dc,rfl,d1,d2,d3⟩:=h2.shape;unfold maxLen at d3;have hb:(((dl:Nat):Int)==0)=false:=beq_eq_false_iff_ne.2 (by
   intro e;have:dl=0:=by omega
   have:=d1.1 this;omega)
  have H2:=ab h2;clear h1 h2 h3 h4 d1;go_enter Tryz.func136,Tryz.ntmps136
  go_wp2;go_ret;exact ⟨_,rfl,(H2.out.keep0 (ag (ae _ _) _)).mono (by omega),ag (ae _ _) _⟩
theorem cM (uo:Option Addr) (ul uc:Nat) (b:Bool) (w:World) :
  Calls Tryz.prog 133 #[.agg #[.bool b,.slice uo ul uc,.slice none 0 0]] w fun e w'=>e=.returned (.bool true)/\w.grownBy w' none:=by
 go_enter Tryz.func133,Tryz.ntmps133
 go_wp2;go_ret;exact ⟨rfl,ag (ae _ _) _⟩
theorem fB (uo do_:Option Addr) (ul uc dl dc:Nat) (b:Bool) (w:World) (h:0<dl) (h2:dl<=dc) (h3:dc<=maxLen) :
  Calls Tryz.prog 133 #[.agg #[.bool b,.slice uo ul uc,.slice do_ dl dc]] w fun e w'=>e=.returned (.bool false)/\w.grownBy w' none:=by
 unfold maxLen at h3;have hb:(((dl:Nat):Int)==0)=false:=beq_eq_false_iff_ne.2 (by omega);go_enter Tryz.func133,Tryz.ntmps133
 go_wp2;go_ret;exact ⟨rfl,ag (ae _ _) _⟩
theorem n8 (x y:Value) (n m L:Nat) (w:World) (hx:aU w x n L) (hy:aU w y m L) (h0:0<n∨0<m) (hl:L<=8000000000000) :
  Calls Tryz.prog 135 #[x,y] w fun e w'=>GcdE w (Nat.gcd n m) L e w':=by
 obtain ⟨xs,h1,h2,h3,h4⟩:=hx;obtain ⟨ys,k1,k2,k3,k4⟩:=hy;rw [<- h3,<- k3];exact iO x y xs ys w h1 k1 h2 k2 (by omega) L h4 k4 hl
theorem wQ (b:Bool) (k A B:Nat) (hk:0<k):bn b (k*A) (k*B)=bn b A B:=by
 unfold bn;rw [Nat.gcd_mul_left];by_cases h:A=0∨B=0
 ·have h':k*A=0∨k*B=0:=by
   rcases h with h | h
   ·exact .inl (by rw [h,Nat.mul_zero])
   ·exact .inr (by rw [h,Nat.mul_zero])
  rw [if_pos h,if_pos h']
 ·have h':¬ (k*A=0∨k*B=0):=by
   intro h';rcases h' with h' | h' <;> rcases Nat.mul_eq_zero.1 h' with e | e
   ·omega
   ·exact h (.inl e)
   ·omega
   ·exact h (.inr e)
  rw [if_neg h,if_neg h',Nat.mul_div_mul_left _ _ hk,Nat.mul_div_mul_left _ _ hk]
theorem nI (b:Bool) (n m:Nat) (h0:0<n) (h1:0<m) (h:Nat.gcd n m=1):bn b n m=(b,n,m):=by
 unfold bn;rw [if_neg (by omega),h,Nat.div_one,Nat.div_one]
theorem xN {a b k l:Nat} (h:Nat.gcd a b=1) (hk:k∣a) (hl:l∣b):Nat.Coprime (a / k) (b / l) :=
 Nat.Coprime.coprime_dvd_left (Nat.div_dvd_of_dvd hk) (Nat.Coprime.coprime_dvd_right (Nat.div_dvd_of_dvd hl) h)
theorem zj {n1 d1 n2 d2:Nat} (h1:Nat.gcd n1 d1=1) (h2:Nat.gcd n2 d2=1) (p1:0<d1) (p2:0<d2) :
  Nat.gcd (n1 / Nat.gcd n1 d2*(n2 / Nat.gcd n2 d1)) (d1 / Nat.gcd n2 d1*(d2 / Nat.gcd n1 d2))=1:=by
 have g1:0<Nat.gcd n1 d2:=Nat.gcd_pos_of_pos_right _ p2;have g2:0<Nat.gcd n2 d1:=Nat.gcd_pos_of_pos_right _ p1;have a1:=xN h1 (Nat.gcd_dvd_left n1 d2) (Nat.gcd_dvd_right n2 d1);have a2:Nat.Coprime (n1 / Nat.gcd n1 d2) (d2 / Nat.gcd n1 d2):=Nat.coprime_div_gcd_div_gcd g1;have a3:Nat.Coprime (n2 / Nat.gcd n2 d1) (d1 / Nat.gcd n2 d1):=Nat.coprime_div_gcd_div_gcd g2;have a4:=xN h2 (Nat.gcd_dvd_left n2 d1) (Nat.gcd_dvd_right n1 d2);exact Nat.Coprime.mul_left (Nat.Coprime.mul_right a1 a2) (Nat.Coprime.mul_right a3 a4)
theorem zk (b:Bool) {n1 d1 n2 d2:Nat} (p1:0<d1) (p2:0<d2) :
  bn b (n1 / Nat.gcd n1 d2*(n2 / Nat.gcd n2 d1)) (d1 / Nat.gcd n2 d1*(d2 / Nat.gcd n1 d2))=bn b (n1*n2) (d1*d2):=by
 have g1:0<Nat.gcd n1 d2:=Nat.gcd_pos_of_pos_right _ p2;have g2:0<Nat.gcd n2 d1:=Nat.gcd_pos_of_pos_right _ p1;rw [<- wQ b (Nat.gcd n1 d2*Nat.gcd n2 d1) _ _ (Nat.mul_pos g1 g2)];have e1:=Nat.mul_div_cancel' (Nat.gcd_dvd_left n1 d2);have e2:=Nat.mul_div_cancel' (Nat.gcd_dvd_left n2 d1);have e3:=Nat.mul_div_cancel' (Nat.gcd_dvd_right n1 d2);have e4:=Nat.mul_div_cancel' (Nat.gcd_dvd_right n2 d1);congr 1
 ·rw [Nat.mul_mul_mul_comm,e1,e2]
 ·rw [Nat.mul_comm (d1 / _),Nat.mul_mul_mul_comm,e3,e4,Nat.mul_comm]
theorem kx (below:Bool) (u d:Value) (n m L:Nat) (w:World) (hu:aU w u n L) (hd:aU w d m L) (hm:0<m) (hc:n=0∨Nat.gcd n m=1) :
  Calls Tryz.prog 139 #[.bool below,u,d] w fun e w'=>fW w (bn below n m).1 (bn below n m).2.1 (bn below n m).2.2 L e w':=by
 obtain ⟨uo,ul,uc,rfl,u1,u2,u3⟩:=hu.shape;obtain ⟨do_,dl,dc,rfl,d1,d2,d3⟩:=hd.shape;unfold maxLen at u3 d3;have g1:w.grownBy (w.alloc (Obj.cells #[Value.bool false,Value.slice none 0 0,Value.slice none 0 0] 91)) none:=ag (ae w none) _;have G1:=ab g1;clear g1;by_cases h0:n=0
 ·subst h0;obtain rfl:ul=0:=u1.2 rfl;have e:bn below 0 m=(false,0,1):=by unfold bn;rw [if_pos (.inl rfl)]
  rw [e];have hend:fW w false 0 1 L (.returned (.agg #[.bool false,.slice none 0 0,.slice none 0 0])) (w.alloc (Obj.cells #[Value.bool false,Value.slice none 0 0,Value.slice none 0 0] 91)) :=
   ⟨_,rfl,⟨_,_,rfl,⟨[],Ws.nil _,rfl,rfl,by simp⟩,.inl ⟨rfl,rfl⟩,rfl,by simp⟩,ag (ae _ _) _⟩
  have HEND:=ab hend;clear hend hu hd u1 d1 hc e;go_enter Tryz.func139,Tryz.ntmps139
  go_wp2;exact bodyPost_ret (v:=.agg #[.bool false,.slice none 0 0,.slice none 0 0]) (by simp [results,Tryz.results139,go_sem]) rfl HEND.out
 ·have hul:0<ul:=by
   rcases Nat.eq_zero_or_pos ul with h | h
   ·exact absurd (u1.1 h) h0
   ·exact h
  have hb1:(((ul:Nat):Int)==0)=false:=beq_eq_false_iff_ne.2 (by omega);have hg:Nat.gcd n m=1:=by
   rcases hc with h | h
   ·exact absurd h h0
   ·exact h
  rw [nI below n m (by omega) hm hg];have HU:=ab hu;have HD:=ab hd;have HG:=ab hg;have HN:Hid (0<n):=by show 0<n;omega
  clear hu hd u1 d1 hc hg h0;by_cases h1:m=1
  ·have HH1:=ab h1;clear h1;go_enter Tryz.func139,Tryz.ntmps139
   go_wp2_with fail;refine (rp _ L _ (by have:=HD.out.keep0 G1.out;rw [HH1.out] at this;exact this)).mono ?_;rintro e w2 ⟨rfl,rfl⟩;go_wp2;refine bodyPost_ret (v:=.agg #[.bool below,.slice uo ul uc,.slice none 0 0]) (by simp [results,Tryz.results139,go_sem]) rfl ?_;exact ⟨_,rfl,⟨_,_,rfl,HU.out.keep0 (ag (ae _ _) _),.inl ⟨rfl,HH1.out⟩,HG.out,fun _=>HN.out⟩,ag (ae _ _) _⟩
  ·have HH1:=ab h1;have HM1:Hid (1<m):=by show 1<m;omega
   clear h1;go_enter Tryz.func139,Tryz.ntmps139
   go_wp2_with fail;refine (ud _ m L _ (HD.out.keep0 G1.out) HH1.out).mono ?_;rintro e w2 ⟨rfl,rfl⟩;go_wp2;refine bodyPost_ret (v:=.agg #[.bool below,.slice uo ul uc,.slice do_ dl dc]) (by simp [results,Tryz.results139,go_sem]) rfl ?_;exact ⟨_,rfl,⟨_,_,rfl,HU.out.keep0 (ag (ae _ _) _),.inr ⟨HD.out.keep0 (ag (ae _ _) _),HM1.out⟩,HG.out,fun _=>HN.out⟩,ag (ae _ _) _⟩
end Go.Proofs.YthblidglcppakaaGreatDoor
