/- Contracts that the proof leans on. -/
import Derived.Test.YthblidglcppakaaGreatDoorXCBb
import Derived.Deep.RegionHeld3
namespace Go.Proofs.YthblidglcppakaaGreatDoor
open Go.RowKit
set_option linter.unusedVariables false
set_option linter.unusedSimpArgs false
set_option maxHeartbeats 8000000
set_option maxRecDepth 10000
structure gC (w:World) (b off:Nat) (neg:Bool) (v:Value):Prop where
 c0:w.cell? ⟨b,off,none⟩=some (.bool neg)
 c1:w.cell? ⟨b,off+1,none⟩=some v
 f0:w.frozen? ⟨b,off,none⟩=false
 f1:w.frozen? ⟨b,off+1,none⟩=false
theorem eE {w:World} {a:Addr} {v:Value} (h:w.cell? a=some v):a.block<w.heap.size:=by
 rcases Nat.lt_or_ge a.block w.heap.size with h' | h'
 ·exact h'
 ·simp [World.cell?,Array.getElem?_eq_none h'] at h
theorem gC.lt {w:World} {b off:Nat} {neg:Bool} {v:Value} (h:gC w b off neg v):b<w.heap.size:=eE h.c0
structure fY (w w':World) (b off:Nat):Prop where
 gr:w.grownBy w' (some b)
 rest:∀ o,o≠off->o≠off+1->w'.cell? ⟨b,o,none⟩=w.cell? ⟨b,o,none⟩
 fr:∀ o,w'.frozen? ⟨b,o,none⟩=w.frozen? ⟨b,o,none⟩
theorem fY.of_gr {w w':World} (h:w.grownBy w' none) (b off:Nat) (hb:b<w.heap.size):fY w w' b off :=
 ⟨⟨h.os,h.tape,h.output,h.size,fun k hk _=>h.block k hk (by simp)⟩,fun o _ _=>World.cell?_of_block (h.block b hb (by simp)),fun o=>World.frozen?_of_block (h.block b hb (by simp))⟩
theorem fY.trans {w w1 w2:World} {b off:Nat} (h:fY w w1 b off) (k:fY w1 w2 b off):fY w w2 b off :=
 ⟨aq h.gr k.gr (fun _ _ e=>e) (fun _ _ e=>e),fun o h1 h2=>(k.rest o h1 h2).trans (h.rest o h1 h2),fun o=>(k.fr o).trans (h.fr o)⟩
theorem fY.set {w:World} {b off o:Nat} (v:Value) (ho:o=off∨o=off+1):fY w (w.setCell ⟨b,o,none⟩ v) b off:=by
 refine ⟨⟨rfl,rfl,rfl,by simp,fun k _ hr=>heap_setCell_other _ _ _ _ (fun e=>hr (by rw [e]))⟩,fun o' h1 h2=>?_,fun o'=>by simp⟩;refine World.cell?_setCell_other w ⟨b,o,none⟩ ⟨b,o',none⟩ v ?_;intro e;simp only [Addr.mk.injEq,true_and,and_true] at e;omega
theorem gC.keep {w w':World} {b off b2 o2:Nat} {neg:Bool} {v:Value} (h:gC w b off neg v) (hp:fY w w' b2 o2) (hne:b≠b2∨off+1<o2∨o2+1<off):gC w' b off neg v:=by
 by_cases hb:b=b2
 ·subst hb;have h':off+1<o2∨o2+1<off:=by rcases hne with h | h;exact absurd rfl h;exact h
  exact ⟨(hp.rest off (by omega) (by omega)).trans h.c0,(hp.rest (off+1) (by omega) (by omega)).trans h.c1,(hp.fr off).trans h.f0,(hp.fr (off+1)).trans h.f1⟩
 ·have e:w'.heap[b]? = w.heap[b]?:=hp.gr.block b h.lt (fun e=>hb (Option.some.inj e));exact ⟨(World.cell?_of_block (a:=⟨b,off,none⟩) e).trans h.c0,(World.cell?_of_block (a:=⟨b,off+1,none⟩) e).trans h.c1,(World.frozen?_of_block (a:=⟨b,off,none⟩) e).trans h.f0,(World.frozen?_of_block (a:=⟨b,off+1,none⟩) e).trans h.f1⟩
theorem gC.keep0 {w w':World} {b off:Nat} {neg:Bool} {v:Value} (h:gC w b off neg v) (hg:w.grownBy w' none):gC w' b off neg v:=by
 have e:w'.heap[b]? = w.heap[b]?:=hg.block b h.lt (by simp);exact ⟨(World.cell?_of_block (a:=⟨b,off,none⟩) e).trans h.c0,(World.cell?_of_block (a:=⟨b,off+1,none⟩) e).trans h.c1,(World.frozen?_of_block (a:=⟨b,off,none⟩) e).trans h.f0,(World.frozen?_of_block (a:=⟨b,off+1,none⟩) e).trans h.f1⟩
def aB (w:World) (b off:Nat) (z:Int) (L:Nat):Prop :=
 ∃ neg v,gC w b off neg v/\aU w v z.natAbs L/\neg=decide (z<0)/\az v≠some b
def eX (w w':World) (b off:Nat):Prop:=∀ v,w'.cell? ⟨b,off+1,none⟩=some v->bA w v
theorem eX.of {w w1 w':World} {b off:Nat} {v:Value} (hc:w'.cell? ⟨b,off+1,none⟩=some v) (hf:bA w1 v) (hs:w.heap.size<=w1.heap.size):eX w w' b off:=fun u hu=>by
 rw [hc] at hu;have:=Option.some.inj hu;subst this;intro k hk;exact Nat.le_trans hs (hf k hk)
def sg (neg:Bool) (n:Nat):Int:=if neg then -(n:Int) else n
theorem pP (x:Int) (neg:Bool) (h:neg=decide (x<0)):sg neg x.natAbs=x:=by
 subst h;unfold sg;by_cases hx:x<0
 ·simp [hx];omega
 ·simp [hx];omega
theorem sg_not (x:Int) (neg:Bool) (h:neg=decide (x<0)):sg (!neg) x.natAbs = -x:=by
 subst h;unfold sg;by_cases hx:x<0
 ·simp [hx];omega
 ·simp [hx];omega
theorem sg_mul (x y:Int) (a b:Bool) (ha:a=decide (x<0)) (hb:b=decide (y<0)):sg (a != b) (x.natAbs*y.natAbs)=x*y:=by
 have e1:=pP x a ha;have e2:=pP y b hb;rw [<- Int.natAbs_mul];generalize hm:(x*y).natAbs=m;have hm':(m:Int)=(x.natAbs:Int)*(y.natAbs:Int):=by rw [<- hm,Int.natAbs_mul,Int.natCast_mul]
 rw [<- e1,<- e2];unfold sg;cases a<;>cases b<;>simp [hm',Int.neg_mul,Int.mul_neg]
theorem gS (b off:Nat) (neg0:Bool) (v0:Value) (neg:Bool) (v:Value) (n L:Nat) (w:World) (hB:gC w b off neg0 v0) (hn:aU w v n L) (hvb:az v≠some b) :
  Calls Tryz.prog 65 #[.pointer (some ⟨b,off,none⟩),.bool neg,v] w fun e w'=>e=.returned (.pointer (some ⟨b,off,none⟩))/\fY w w' b off/\aB w' b off (sg neg n) L/\w'.cell? ⟨b,off+1,none⟩=some v:=by
 obtain ⟨xs,x1,x2,x3,x4⟩:=hn;obtain ⟨ao,ca,rfl,hca,hca',_⟩:=x1.open;unfold maxLen at hca';have HB:=ab hB;have X1:=ab x1;have X2:=ab x2;have X3:=ab x3;have c0:=hB.c0;have c1:=hB.c1;have f0:=hB.f0;have f1:=hB.f1;have VB:=ab hvb;clear hB x1 x2 x3 hvb;have fin:∀ (nb:Bool),nb=(neg && decide (0<xs.length))->fY w ((w.setCell ⟨b,off+1,none⟩ (.slice ao xs.length ca)).setCell ⟨b,off,none⟩ (.bool nb)) b off/\aB ((w.setCell ⟨b,off+1,none⟩ (.slice ao xs.length ca)).setCell ⟨b,off,none⟩ (.bool nb)) b off (sg neg n) L/\((w.setCell ⟨b,off+1,none⟩ (.slice ao xs.length ca)).setCell ⟨b,off,none⟩ (.bool nb)).cell? ⟨b,off+1,none⟩=some (.slice ao xs.length ca):=by
  intro nb hnb;have hP:fY w ((w.setCell ⟨b,off+1,none⟩ (.slice ao xs.length ca)).setCell ⟨b,off,none⟩ (.bool nb)) b off:=(fY.set _ (.inr rfl)).trans (fY.set _ (.inl rfl));have hc:((w.setCell ⟨b,off+1,none⟩ (.slice ao xs.length ca)).setCell ⟨b,off,none⟩ (.bool nb)).cell? ⟨b,off+1,none⟩=some (.slice ao xs.length ca):=by
   rw [World.cell?_setCell_other _ _ _ _ (by simp)];exact World.cell?_setCell_same _ _ _ HB.out.c1
  refine ⟨hP,⟨nb,.slice ao xs.length ca,⟨?_,hc,?_,?_⟩,?_,?_,VB.out⟩,hc⟩
  ·exact World.cell?_setCell_same _ _ _ (by rw [World.cell?_setCell_other _ _ _ _ (by simp)];exact HB.out.c0)
  ·rw [hP.fr];exact HB.out.f0
  ·rw [hP.fr];exact HB.out.f1
  ·have:(sg neg n).natAbs=n:=by unfold sg;split<;>omega
   rw [this];exact ⟨xs,X1.out.keep hP.gr (fun k e h=>by cases e;exact VB.out h),X2.out,X3.out,x4⟩
  ·rw [hnb];have hx:=X3.out;by_cases h0:xs.length=0
   ·have:xs=[]:=List.eq_nil_of_length_eq_zero h0;rw [this] at hx ⊢;simp only [ak] at hx;subst hx;cases neg<;>simp [sg]
   ·have hp:0<n:=by
     have:=iZ X2.out (by intro e;rw [e] at h0;simp at h0);have p3:0<4294967296^(xs.length-1):=Nat.pow_pos (by decide);omega
    cases neg
    ·simp [sg]
    ·simp only [sg,if_true,Bool.true_and];rw [decide_eq_true (by omega),decide_eq_true (by omega)]
 have FIN:=ab fin;clear fin;cases neg
 ·go_enter Tryz.func65,Tryz.ntmps65
  go_wp2;go_ret;exact ⟨rfl,FIN.out _ (by simp)⟩
 ·by_cases h0:0<xs.length
  ·go_enter Tryz.func65,Tryz.ntmps65
   go_wp2;go_ret;exact ⟨rfl,FIN.out _ (by simp [h0])⟩
  ·go_enter Tryz.func65,Tryz.ntmps65
   go_wp2;go_ret;exact ⟨rfl,FIN.out _ (by simp [h0])⟩
theorem cH {w w1 w':World} {b off:Nat} (h:w.grownBy w1 none) (hp:fY w1 w' b off) (hb:w.heap.size<=b):w.grownBy w' none :=
 aq h hp.gr (fun _ _ e=>e) (fun k hk e=>by cases e;omega)
theorem aF {w:World} (k:Nat):w.grownBy (w.drewN k) none:=ar (ae _ _) k
theorem aB.keep {w w':World} {b off b2 o2 L:Nat} {z:Int} (h:aB w b off z L) (hp:fY w w' b2 o2) (hne:b≠b2∨off+1<o2∨o2+1<off) (hv:∀ v,w.cell? ⟨b,off+1,none⟩=some v->az v≠some b2):aB w' b off z L:=by
 obtain ⟨neg,v,h1,h2,h3,h4⟩:=h;exact ⟨neg,v,h1.keep hp hne,h2.keep hp.gr (fun k e=>by cases e;exact hv v h1.c1),h3,h4⟩
theorem aB.keep0 {w w':World} {b off L:Nat} {z:Int} (h:aB w b off z L) (hg:w.grownBy w' none):aB w' b off z L:=by
 obtain ⟨neg,v,h1,h2,h3,h4⟩:=h;exact ⟨neg,v,h1.keep0 hg,h2.keep0 hg,h3,h4⟩
theorem aB.lt {w:World} {b off L:Nat} {z:Int} (h:aB w b off z L):b<w.heap.size:=by
 obtain ⟨neg,v,h1,h2,h3,h4⟩:=h;exact h1.lt
theorem aB.mono {w:World} {b off L L':Nat} {z:Int} (h:aB w b off z L) (hl:L<=L'):aB w b off z L':=by
 obtain ⟨neg,v,h1,h2,h3,h4⟩:=h;exact ⟨neg,v,h1,h2.mono hl,h3,h4⟩
theorem gR {w w1:World} {v:Value} {b:Nat} (h:bA w v) (hb:b<w.heap.size):az v≠some b:=fun e=>by
 have:=h b e;omega
theorem gh (w:World):gC (w.alloc (.cells #[.bool false,.slice none 0 0] 45)) w.heap.size 0 false (.slice none 0 0) :=
 ⟨by simp,by simp,by simp,by simp⟩
theorem kh (b off:Nat) (neg0:Bool) (v0:Value) (x:Int) (w:World) (hB:gC w b off neg0 v0) (h1:-9223372036854775808<=x) (h2:x<=9223372036854775807) :
  Calls Tryz.prog 66 #[.pointer (some ⟨b,off,none⟩),.int .i64 x] w fun e w'=>e=.returned (.pointer (some ⟨b,off,none⟩))/\fY w w' b off/\aB w' b off x 2/\eX w w' b off:=by
 have HB:=ab hB;have hb:=hB.lt;clear hB;by_cases hx:x<0
 ·have hneg:IntKind.u64.wrap (-IntKind.u64.wrap x) = -x:=by rw [IntKind.wrap_u64,IntKind.wrap_u64];omega
  go_enter Tryz.func66,Tryz.ntmps66
  go_wp2_with fail;refine (eO _ _ ?p1 ?p2).mono ?_
  case p1=>omega
  case p2=>omega
  rintro e w1 ⟨v',rfl,k1,k2,k3⟩;have K1:=ab k1;have K2:=ab k2;have K3:=ab k3;clear k1 k2 k3;go_wp2_with fail;refine (gS b off neg0 v0 _ v' _ 2 w1 (HB.out.keep0 K2.out) K1.out (gR (w1:=w) K3.out hb)).mono ?_;rintro e w2 ⟨rfl,a1,a2,a5⟩;have A5:=ab a5;clear a5;have A1:=ab a1;have A2:=ab a2;clear a1 a2;go_wp2;go_ret;refine ⟨rfl,(fY.of_gr K2.out b off hb).trans A1.out,?_,eX.of A5.out K3.out (Nat.le_refl _)⟩;have h:=A2.out;rw [show (-x).toNat=x.natAbs from by omega,pP x true (by simp [hx])] at h;exact h
 ·go_enter Tryz.func66,Tryz.ntmps66
  go_wp2_with fail;refine (eO _ _ (by omega) (by omega)).mono ?_;rintro e w1 ⟨v',rfl,k1,k2,k3⟩;have K1:=ab k1;have K2:=ab k2;have K3:=ab k3;clear k1 k2 k3;go_wp2_with fail;refine (gS b off neg0 v0 _ v' _ 2 w1 (HB.out.keep0 K2.out) K1.out (gR (w1:=w) K3.out hb)).mono ?_;rintro e w2 ⟨rfl,a1,a2,a5⟩;have A5:=ab a5;clear a5;have A1:=ab a1;have A2:=ab a2;clear a1 a2;go_wp2;go_ret;refine ⟨rfl,(fY.of_gr K2.out b off hb).trans A1.out,?_,eX.of A5.out K3.out (Nat.le_refl _)⟩;have h:=A2.out;rw [show x.toNat=x.natAbs from by omega,pP x _ (by first | rfl | (simp;omega))] at h;exact h
theorem fF (x:Int) (w:World) (h1:-9223372036854775808<=x) (h2:x<=9223372036854775807) :
  Calls Tryz.prog 30 #[.int .i64 x] w fun e w'=>e=.returned (.pointer (some ⟨w.heap.size,0,none⟩))/\w.grownBy w' none/\aB w' w.heap.size 0 x 2/\eX w w' w.heap.size 0:=by
 go_enter Tryz.func30,Tryz.ntmps30
 go_wp2_with fail;refine (kh w.heap.size 0 false (.slice none 0 0) x _ (gh w) h1 h2).mono ?_;rintro e w1 ⟨rfl,a1,a2,a5⟩;have A5:=ab a5;clear a5;have A1:=ab a1;have A2:=ab a2;clear a1 a2;go_wp2;go_ret;exact ⟨rfl,cH (ag (ae _ _) _) A1.out (Nat.le_refl _),A2.out,fun v hv k hk=>Nat.le_trans (by simp) (A5.out v hv k hk)⟩
theorem sK (b off bx ox:Nat) (neg0:Bool) (v0:Value) (x:Int) (L:Nat) (w:World) (hB:gC w b off neg0 v0) (hX:aB w bx ox x L) (hL:L<=10000000000000) :
  Calls Tryz.prog 67 #[.pointer (some ⟨b,off,none⟩),.pointer (some ⟨bx,ox,none⟩)] w fun e w'=>e=.returned (.pointer (some ⟨b,off,none⟩))/\fY w w' b off/\aB w' b off x L/\eX w w' b off:=by
 have HB:=ab hB;have hb:=hB.lt;obtain ⟨neg,v,h1,h2,h3,h4⟩:=hX;have HX:=ab h1;have c0:=h1.c0;have c1:=h1.c1;have H2:=ab h2;have H3:=ab h3;clear hB h1 h2 h3 h4;go_enter Tryz.func67,Tryz.ntmps67
 go_wp2;go_region_with (first | (go_at_call 92;refine (vJ _ _ L _ (H2.out.keep0 (aF _)) (by omega)).mono ?_;rintro e w1 ⟨v',rfl,k1,k2,k3⟩;have q0:=(HX.out.keep0 (aa (aF _) k2)).c0) | (go_at_call 65;refine (gS b off neg0 v0 neg v' _ L w1 (HB.out.keep0 (aa (aF _) k2)) k1 (gR (w1:=w) k3 hb)).mono ?_;rintro e w2 ⟨rfl,a1,a2,a5⟩))
 all_goals go_wp2
 all_goals go_ret
 all_goals rw [pP x neg H3.out] at a2
 all_goals exact ⟨rfl,(fY.of_gr (aa (aF _) k2) b off hb).trans a1,a2,eX.of a5 k3 (Nat.le_refl _)⟩
theorem pz (b off bx ox:Nat) (neg0:Bool) (v0:Value) (x:Int) (L:Nat) (w:World) (hB:gC w b off neg0 v0) (hX:aB w bx ox x L) (hL:L<=10000000000000) :
  Calls Tryz.prog 70 #[.pointer (some ⟨b,off,none⟩),.pointer (some ⟨bx,ox,none⟩)] w fun e w'=>e=.returned (.pointer (some ⟨b,off,none⟩))/\fY w w' b off/\aB w' b off (-x) L/\eX w w' b off:=by
 have HB:=ab hB;have hb:=hB.lt;obtain ⟨neg,v,h1,h2,h3,h4⟩:=hX;have HX:=ab h1;have c0:=h1.c0;have c1:=h1.c1;have H2:=ab h2;have H3:=ab h3;clear hB h1 h2 h3 h4;go_enter Tryz.func70,Tryz.ntmps70
 go_wp2;go_region_with (first | (go_at_call 92;refine (vJ _ _ L _ (H2.out.keep0 (aF _)) (by omega)).mono ?_;rintro e w1 ⟨v',rfl,k1,k2,k3⟩;have q0:=(HX.out.keep0 (aa (aF _) k2)).c0) | (go_at_call 65;refine (gS b off neg0 v0 (!neg) v' _ L w1 (HB.out.keep0 (aa (aF _) k2)) k1 (gR (w1:=w) k3 hb)).mono ?_;rintro e w2 ⟨rfl,a1,a2,a5⟩))
 all_goals go_wp2
 all_goals go_ret
 all_goals rw [sg_not x neg H3.out] at a2
 all_goals exact ⟨rfl,(fY.of_gr (aa (aF _) k2) b off hb).trans a1,a2,eX.of a5 k3 (Nat.le_refl _)⟩
theorem mul_at (b off bx ox bY oY:Nat) (neg0:Bool) (v0:Value) (x y:Int) (L M:Nat) (w:World) (hB:gC w b off neg0 v0) (hX:aB w bx ox x L) (hY:aB w bY oY y M) (hL:L+M<=10000000000000) (hnx:bx≠b) (hny:bY≠b) :
  Calls Tryz.prog 34 #[.pointer (some ⟨b,off,none⟩),.pointer (some ⟨bx,ox,none⟩),.pointer (some ⟨bY,oY,none⟩)] w fun e w'=>e=.returned (.pointer (some ⟨b,off,none⟩))/\fY w w' b off/\aB w' b off (x*y) (L+M)/\eX w w' b off:=by
 have HB:=ab hB;have hb:=hB.lt;obtain ⟨neg,v,h1,h2,h3,h4⟩:=hX;obtain ⟨neg',u,h1',h2',h3',h4'⟩:=hY;have HX:=ab h1;have c0:=h1.c0;have c1:=h1.c1;have HY:=ab h1';have d0:=h1'.c0;have d1:=h1'.c1;have H2:=ab h2;have H3:=ab h3;have H2':=ab h2';have H3':=ab h3';clear hB h1 h2 h3 h4 h1' h2' h3' h4';go_enter Tryz.func34,Tryz.ntmps34
 go_wp2;go_region_held3 (fun w'=>w'.cell? ⟨bx,ox,none⟩=some (.bool neg)/\w'.cell? ⟨bx,ox+1,none⟩=some v/\w'.cell? ⟨bY,oY,none⟩=some (.bool neg')/\w'.cell? ⟨bY,oY+1,none⟩=some u) (go_keep)
  (first | (go_at_call 63;refine (ye _ _ _ _ L M _ (H2.out.keep0 (aF _)) (H2'.out.keep0 (aF _)) (by omega)).mono ?_;rintro e w1 ⟨v',rfl,k1,k2,k3⟩;have q0:=(HX.out.keep0 (aa (aF _) k2)).c0;have q0':=(HX.out.keep0 (aa (aF _) k2)).c1;have q1:=(HY.out.keep0 (aa (aF _) k2)).c0;have q1':=(HY.out.keep0 (aa (aF _) k2)).c1) | (go_at_call 65;refine (gS b off neg0 v0 (neg != neg') v' _ (L+M) w1 (HB.out.keep0 (aa (aF _) k2)) k1 (gR (w1:=w) k3 hb)).mono ?_;rintro e w2 ⟨rfl,a1,a2,a5⟩;have r0:=((HX.out.keep0 (aa (aF _) k2)).keep a1 (.inl hnx)).c0;have r1:=((HX.out.keep0 (aa (aF _) k2)).keep a1 (.inl hnx)).c1;have r2:=((HY.out.keep0 (aa (aF _) k2)).keep a1 (.inl hny)).c0;have r3:=((HY.out.keep0 (aa (aF _) k2)).keep a1 (.inl hny)).c1))
 all_goals go_wp2
 all_goals go_ret
 all_goals rw [sg_mul x y neg neg' H3.out H3'.out] at a2
 all_goals exact ⟨rfl,(fY.of_gr (aa (aF _) k2) b off hb).trans a1,a2,eX.of a5 k3 (Nat.le_refl _)⟩
structure bB (w w':World) (b:Nat):Prop where
 gr:w.grownBy w' (some b)
 rest:b<w.heap.size->∀ o,4<=o->w'.cell? ⟨b,o,none⟩=w.cell? ⟨b,o,none⟩
theorem bB.of_put {w w':World} {b off:Nat} (h:fY w w' b off) (ho:off<=2:=by decide):bB w w' b:=⟨h.gr,fun _ o h4=>h.rest o (by omega) (by omega)⟩
theorem bB.of_gr {w w':World} {b:Nat} (h:w.grownBy w' none):bB w w' b:=⟨⟨h.os,h.tape,h.output,h.size,fun k hk _=>h.block k hk (by simp)⟩,fun hb o _=>World.cell?_of_block (h.block b hb (by simp))⟩
theorem bB.trans {w w1 w2:World} {b:Nat} (h:bB w w1 b) (k:bB w1 w2 b):bB w w2 b:=⟨aq h.gr k.gr (fun _ _ e=>e) (fun _ _ e=>e),fun hb o h4=>(k.rest (Nat.lt_of_lt_of_le hb h.gr.size) o h4).trans (h.rest hb o h4)⟩
theorem aL {w:World} {v:Value} {n L:Nat} (h:aU w v n L):∃ ao l ca,v=.slice ao l ca/\(l=0↔n=0)/\l<=L/\l<=ca/\ca<=9223372036854775807/\(l=1->∃ b off,ao=some ⟨b,off,none⟩/\w.cell? ⟨b,off,none⟩=some (.int .u32 (n:Nat)))/\(n=1->l=1):=by
 obtain ⟨xs,x1,x2,x3,x4⟩:=h;obtain ⟨ao,ca,rfl,h1,h2,h3⟩:=x1.open;refine ⟨ao,xs.length,ca,rfl,?_,x4,h1,by unfold maxLen at h2;omega,?_,?_⟩
 ·constructor
  ·intro h;have:xs=[]:=List.eq_nil_of_length_eq_zero h;rw [this] at x3;simpa [ak] using x3.symm
  ·intro h;rcases Nat.eq_zero_or_pos xs.length with h' | h'
   ·exact h'
   ·have:=iZ x2 (by intro e;rw [e] at h';simp at h');have p3:0<4294967296^(xs.length-1):=Nat.pow_pos (by decide);omega
 ·intro h;obtain ⟨b,off,e,hb,hc⟩:=h3 0 (by omega);refine ⟨b,off,e,?_⟩;obtain ⟨x,rfl⟩:=List.length_eq_one_iff.1 h;simp only [Nat.add_zero,List.getElem_cons_zero] at hc;rw [hc,<- x3];simp [ak]
 ·intro h;have hne:xs≠[]:=by intro e;rw [e] at x3;simp [ak] at x3;omega
  have h1:=iZ x2 hne;rw [x3,h] at h1;have h2:xs.length-1=0:=by
   rcases Nat.eq_zero_or_pos (xs.length-1) with h' | h'
   ·exact h'
   ·have:4294967296^1<=4294967296^(xs.length-1):=Nat.pow_le_pow_right (by decide) h';omega
  have h3:0<xs.length:=by
   cases xs with
   | nil=>exact absurd rfl hne
   | cons x r=>simp
  omega
theorem xS (x:Int) (y G:Nat) (hG:G=Nat.gcd x.natAbs y) (hx:x≠0) (hy:0<y):(x / (G:Nat)).natAbs=x.natAbs / G/\decide (x / (G:Nat)<0)=decide (x<0):=by
 have h0:0<G:=by rw [hG];exact Nat.gcd_pos_of_pos_right _ hy
 obtain ⟨k,hk⟩:G∣x.natAbs:=by rw [hG];exact Nat.gcd_dvd_left _ _
 have hk0:0<k:=by
  rcases Nat.eq_zero_or_pos k with e | e
  ·rw [e,Nat.mul_zero] at hk;omega
  ·exact e
 have hG':(G:Int)≠0:=by omega
 rw [hk,Nat.mul_div_cancel_left k h0];by_cases hneg:x<0
 ·have e:x=(G:Int)*(-(k:Int)):=by
   have:(x.natAbs:Int)=(G:Int)*(k:Int):=by rw [hk,Int.natCast_mul]
   rw [Int.mul_neg];omega
  rw [e,Int.mul_ediv_cancel_left _ hG'];refine ⟨by omega,?_⟩;rw [<- e,decide_eq_true hneg];exact decide_eq_true (by omega)
 ·have e:x=(G:Int)*(k:Int):=by
   have:(x.natAbs:Int)=(G:Int)*(k:Int):=by rw [hk,Int.natCast_mul]
   omega
  rw [e,Int.mul_ediv_cancel_left _ hG'];refine ⟨by omega,?_⟩;rw [<- e,decide_eq_false hneg];exact decide_eq_false (by omega)
theorem ma (b:Nat) (x:Int) (y G L M:Nat) (w w1 w2 w3:World) (na:Bool) {va vb:Value} (p q:Value) (hG:G=Nat.gcd x.natAbs y) (hx:x≠0) (hy:0<y) (hna:na=decide (x<0))
  (g1:w.grownBy w1 none) (g2:w1.grownBy w2 none) (g3:w2.grownBy w3 none) (t1:gC w3 b 0 na va) (t2:gC w3 b 2 false vb) (n1:aU w2 p (x.natAbs / G) (L+2)) (n2:aU w3 q (y / G) (M+2)) (f1:bA w1 p) (f2:bA w2 q) (hb:b<w.heap.size) :
  bB w ((w3.setCell ⟨b,1,none⟩ p).setCell ⟨b,3,none⟩ q) b/\aB ((w3.setCell ⟨b,1,none⟩ p).setCell ⟨b,3,none⟩ q) b 0 (x / (G:Nat)) (L+2)/\aB ((w3.setCell ⟨b,1,none⟩ p).setCell ⟨b,3,none⟩ q) b 2 (y / G:Nat) (M+2):=by
 obtain ⟨d1,d2⟩:=xS x y G hG hx hy;have P1:fY w3 (w3.setCell ⟨b,1,none⟩ p) b 0:=fY.set _ (.inr rfl);have P2:fY (w3.setCell ⟨b,1,none⟩ p) ((w3.setCell ⟨b,1,none⟩ p).setCell ⟨b,3,none⟩ q) b 2:=fY.set _ (.inr rfl);have hpb:az p≠some b:=fun e=>by have:=f1 b e;have:=g1.size;omega
 have hqb:az q≠some b:=fun e=>by have:=f2 b e;have:=g1.size;have:=g2.size;omega
 have gg:w.grownBy w3 none:=aa (aa g1 g2) g3;refine ⟨(bB.of_gr gg).trans ((bB.of_put P1).trans (bB.of_put P2)),?_,?_⟩
 ·refine ⟨na,p,?_,?_,by rw [hna,d2],hpb⟩
  ·have c1:(w3.setCell ⟨b,1,none⟩ p).cell? ⟨b,1,none⟩=some p:=World.cell?_setCell_same _ _ _ t1.c1;have c0:(w3.setCell ⟨b,1,none⟩ p).cell? ⟨b,0,none⟩=some (.bool na):=by
    rw [World.cell?_setCell_other _ _ _ _ (by simp)];exact t1.c0
   exact gC.keep ⟨c0,c1,(P1.fr 0).trans t1.f0,(P1.fr 1).trans t1.f1⟩ P2 (.inr (.inl (by omega)))
  ·rw [d1];exact ((n1.keep0 g3).keep P1.gr (fun k e h=>by cases e;exact hpb h)).keep P2.gr (fun k e h=>by cases e;exact hpb h)
 ·refine ⟨false,q,?_,?_,(decide_eq_false (Int.not_lt.2 (Int.natCast_nonneg _))).symm,hqb⟩
  ·have t2':gC (w3.setCell ⟨b,1,none⟩ p) b 2 false vb:=t2.keep P1 (.inr (.inr (by omega)));refine ⟨?_,World.cell?_setCell_same _ _ _ t2'.c1,(P2.fr 2).trans t2'.f0,(P2.fr 3).trans t2'.f1⟩;rw [World.cell?_setCell_other _ _ _ _ (by simp)];exact t2'.c0
  ·rw [Int.natAbs_natCast];exact (n2.keep P1.gr (fun k e h=>by cases e;exact hqb h)).keep P2.gr (fun k e h=>by cases e;exact hqb h)
theorem Cg (b:Nat) (x:Int) (y L M:Nat) (w:World) (hA:aB w b 0 x L) (hB:aB w b 2 (y:Int) M) (hx:x≠0) (hy:0<y) (hL:L<=4000000000000) (hM:M<=4000000000000) :
  Calls Tryz.prog 68 #[.pointer (some ⟨b,0,none⟩)] w fun e w'=>e=.returned (.pointer (some ⟨b,0,none⟩))/\bB w w' b/\aB w' b 0 (x / (Nat.gcd x.natAbs y:Nat)) (L+2)/\aB w' b 2 (y / Nat.gcd x.natAbs y:Nat) (M+2):=by
 have HA:=ab hA;have HB:=ab hB;obtain ⟨na,va,a1,a2,a3,a4⟩:=hA;obtain ⟨nb,vb,b1,b2,b3,b4⟩:=hB;rw [Int.natAbs_natCast] at b2;have nbf:nb=false:=by rw [b3];simp
 subst nbf;have c0:=a1.c0;have c1:=a1.c1;have d0:=b1.c0;have d1:=b1.c1;obtain ⟨ao,la,ca,rfl,z1,z2,z3,z4,z5,z6⟩:=aL a2;obtain ⟨bo,lb,cb,rfl,y1,y2,y3,y4,y5,y6⟩:=aL b2;have hla:((la:Int)==0)=false:=beq_eq_false_iff_ne.2 (by omega);have hlb:((lb:Int)==0)=false:=beq_eq_false_iff_ne.2 (by omega);have A1:=ab a1;have A2:=ab a2;have A3:=ab a3;have A4:=ab a4;have B1:=ab b1;have B2:=ab b2;have B4:=ab b4;clear a1 a2 a3 a4 b1 b2 b3 b4 z1 z5 z6 y1;by_cases hy1:y=1
 ·subst hy1;have hl1:((lb:Int)==1)=true:=beq_iff_eq.2 (by have:=y6 rfl;omega);obtain ⟨vbb,voff,rfl,hvc⟩:=y5 (y6 rfl);have hlb1:=y6 rfl;clear y5 y6;go_enter Tryz.func68,Tryz.ntmps68
  go_wp2;go_ret;refine ⟨rfl,bB.of_gr (ae _ _),?_,?_⟩
  ·rw [Nat.gcd_one_right];simpa using HA.out.mono (by omega)
  ·rw [Nat.gcd_one_right];simpa using HB.out.mono (by omega)
 ·have hpk:Hid (0<x.natAbs):=by show 0<x.natAbs;omega
  have hya:∃ Gv:Nat,Gv=Nat.gcd x.natAbs y:=⟨_,rfl⟩;obtain ⟨G,hG⟩:=hya;rw [<- hG];have HG:=ab hG;clear hG;have tst:((lb:Int)==1)=false∨(((lb:Int)==1)=true/\∃ vbb voff,bo=some ⟨vbb,voff,none⟩/\w.cell? ⟨vbb,voff,none⟩=some (.int .u32 (y:Nat))/\(((y:Nat):Int)==1)=false/\1<=lb):=by
   by_cases h:lb=1
   ·obtain ⟨vbb,voff,e1,e2⟩:=y5 h;exact .inr ⟨beq_iff_eq.2 (by omega),vbb,voff,e1,e2,beq_eq_false_iff_ne.2 (by omega),by omega⟩
   ·exact .inl (beq_eq_false_iff_ne.2 (by omega))
  clear y5 y6;rcases tst with hl1 | ⟨hl1,vbb,voff,rfl,hvc,hy1',hlb1⟩
  ·skip;go_enter Tryz.func68,Tryz.ntmps68
   go_wp2;go_region_held3 (fun w'=>w'.cell? ⟨b,1,none⟩=some (.slice ao la ca)/\w'.cell? ⟨b,3,none⟩=some (.slice bo lb cb)) (go_keep)
    (first | (go_at_call 93;refine (jf _ _ _ _ L M _ (A2.out.keep0 (aF _)) (B2.out.keep0 (aF _)) hpk.out (by omega) (by omega)).mono ?_;rintro e w1 ⟨g,rfl,k1,k2⟩;have q1:=(A1.out.keep0 (aa (aF _) k2)).c1;have q3:=(B1.out.keep0 (aa (aF _) k2)).c1))
   have g2:=aa (aF _) k2;rw [<- HG.out] at k1;have hG0:0<G:=by rw [HG.out];exact Nat.gcd_pos_of_pos_right _ hy
   obtain ⟨go,lg,cg,rfl,m1,m2,m3,m4,m5,m6⟩:=aL k1;have e1:=A1.out.keep0 g2;have e2:=B1.out.keep0 g2;have f1:=e1.f1;have f3:=e2.f1;have E1:=ab e1;have E2:=ab e2;have K1:=ab k1;have G2:=ab g2;have N1:=ab (A2.out.keep0 g2);have N2:=ab (B2.out.keep0 g2);clear k1 k2 g2 e1 e2 c0 c1 d0 d1;by_cases hG1:G=1
   ·have hlg:=m6 hG1;have hl2:((lg:Int)==1)=true:=beq_iff_eq.2 (by omega);obtain ⟨gb,goff,rfl,hgc⟩:=m5 hlg;have hgv:(((G:Nat):Int)==1)=true:=beq_iff_eq.2 (by omega);have HG1:=ab hG1;have hlg1:1<=lg:=by omega
    clear m1 m5 m6 hlg hG1;go_wp2;go_ret;refine ⟨rfl,bB.of_gr G2.out,?_,?_⟩
    ·rw [HG1.out];simpa using (HA.out.keep0 G2.out).mono (by omega)
    ·rw [HG1.out];simpa using (HB.out.keep0 G2.out).mono (by omega)
   ·have tst2:((lg:Int)==1)=false∨(((lg:Int)==1)=true/\∃ gb goff,go=some ⟨gb,goff,none⟩/\w1.cell? ⟨gb,goff,none⟩=some (.int .u32 (G:Nat))/\(((G:Nat):Int)==1)=false/\1<=lg):=by
     by_cases h:lg=1
     ·obtain ⟨gb,goff,e1,e2⟩:=m5 h;exact .inr ⟨beq_iff_eq.2 (by omega),gb,goff,e1,e2,beq_eq_false_iff_ne.2 (by omega),by omega⟩
     ·exact .inl (beq_eq_false_iff_ne.2 (by omega))
    clear m1 m5 m6;rcases tst2 with hl2 | ⟨hl2,gb,goff,rfl,hgc,hgv,hlg1⟩
    all_goals
     go_wp2_with fail;refine (fK _ _ _ _ L (max L M+2) _ N1.out K1.out hG0 (by omega) (by omega)).mono ?_;rintro e w2 ⟨p,r1,rfl,p1,p2,p3,p4,p5⟩;obtain ⟨po,lp,cp,rfl,_,_,_,_,_,_⟩:=aL p1;have u1:=E1.out.keep0 p3;have u2:=E2.out.keep0 p3;have s1:=u1.c1;have s2:=u2.c1;have s3:=u1.f1;have s4:=u2.f1;have P1:=ab p1;have P3:=ab p3;have P4:=ab p4;clear p1 p2 p3 p4 p5 q1 q3 f1 f3;go_wp2_with fail;refine (fK _ _ _ _ M (max L M+2) _ (N2.out.keep0 P3.out) (K1.out.keep0 P3.out) hG0 (by omega) (by omega)).mono ?_;rintro e w3 ⟨q,r2,rfl,p1,p2,p3,p4,p5⟩;obtain ⟨qo,lq,cq,rfl,_,_,_,_,_,_⟩:=aL p1;have t1:=u1.keep0 p3;have t2:=u2.keep0 p3;have v1:=t1.c1;have v2:=t2.c1;have v3:=t1.f1;have v4:=t2.f1;have Q1:=ab p1;have Q3:=ab p3;have Q4:=ab p4;have T1:=ab t1;have T2:=ab t2;clear p1 p2 p3 p4 p5 s1 s2 s3 s4 u1 u2 t1 t2;go_wp2;go_ret;exact ⟨rfl,ma b x y G L M w w1 w2 w3 na (.slice po lp cp) (.slice qo lq cq) HG.out hx hy A3.out G2.out P3.out Q3.out T1.out T2.out P1.out Q1.out P4.out Q4.out (A1.out.lt)⟩
  ·skip;go_enter Tryz.func68,Tryz.ntmps68
   go_wp2;go_region_held3 (fun w'=>w'.cell? ⟨b,1,none⟩=some (.slice ao la ca)/\w'.cell? ⟨b,3,none⟩=some (.slice (some ⟨vbb,voff,none⟩) lb cb)) (go_keep)
    (first | (go_at_call 93;refine (jf _ _ _ _ L M _ (A2.out.keep0 (aF _)) (B2.out.keep0 (aF _)) hpk.out (by omega) (by omega)).mono ?_;rintro e w1 ⟨g,rfl,k1,k2⟩;have q1:=(A1.out.keep0 (aa (aF _) k2)).c1;have q3:=(B1.out.keep0 (aa (aF _) k2)).c1))
   have g2:=aa (aF _) k2;rw [<- HG.out] at k1;have hG0:0<G:=by rw [HG.out];exact Nat.gcd_pos_of_pos_right _ hy
   obtain ⟨go,lg,cg,rfl,m1,m2,m3,m4,m5,m6⟩:=aL k1;have e1:=A1.out.keep0 g2;have e2:=B1.out.keep0 g2;have f1:=e1.f1;have f3:=e2.f1;have E1:=ab e1;have E2:=ab e2;have K1:=ab k1;have G2:=ab g2;have N1:=ab (A2.out.keep0 g2);have N2:=ab (B2.out.keep0 g2);clear k1 k2 g2 e1 e2 c0 c1 d0 d1;by_cases hG1:G=1
   ·have hlg:=m6 hG1;have hl2:((lg:Int)==1)=true:=beq_iff_eq.2 (by omega);obtain ⟨gb,goff,rfl,hgc⟩:=m5 hlg;have hgv:(((G:Nat):Int)==1)=true:=beq_iff_eq.2 (by omega);have HG1:=ab hG1;have hlg1:1<=lg:=by omega
    clear m1 m5 m6 hlg hG1;go_wp2;go_ret;refine ⟨rfl,bB.of_gr G2.out,?_,?_⟩
    ·rw [HG1.out];simpa using (HA.out.keep0 G2.out).mono (by omega)
    ·rw [HG1.out];simpa using (HB.out.keep0 G2.out).mono (by omega)
   ·have tst2:((lg:Int)==1)=false∨(((lg:Int)==1)=true/\∃ gb goff,go=some ⟨gb,goff,none⟩/\w1.cell? ⟨gb,goff,none⟩=some (.int .u32 (G:Nat))/\(((G:Nat):Int)==1)=false/\1<=lg):=by
     by_cases h:lg=1
     ·obtain ⟨gb,goff,e1,e2⟩:=m5 h;exact .inr ⟨beq_iff_eq.2 (by omega),gb,goff,e1,e2,beq_eq_false_iff_ne.2 (by omega),by omega⟩
     ·exact .inl (beq_eq_false_iff_ne.2 (by omega))
    clear m1 m5 m6;rcases tst2 with hl2 | ⟨hl2,gb,goff,rfl,hgc,hgv,hlg1⟩
    all_goals
     go_wp2_with fail;refine (fK _ _ _ _ L (max L M+2) _ N1.out K1.out hG0 (by omega) (by omega)).mono ?_;rintro e w2 ⟨p,r1,rfl,p1,p2,p3,p4,p5⟩;obtain ⟨po,lp,cp,rfl,_,_,_,_,_,_⟩:=aL p1;have u1:=E1.out.keep0 p3;have u2:=E2.out.keep0 p3;have s1:=u1.c1;have s2:=u2.c1;have s3:=u1.f1;have s4:=u2.f1;have P1:=ab p1;have P3:=ab p3;have P4:=ab p4;clear p1 p2 p3 p4 p5 q1 q3 f1 f3;go_wp2_with fail;refine (fK _ _ _ _ M (max L M+2) _ (N2.out.keep0 P3.out) (K1.out.keep0 P3.out) hG0 (by omega) (by omega)).mono ?_;rintro e w3 ⟨q,r2,rfl,p1,p2,p3,p4,p5⟩;obtain ⟨qo,lq,cq,rfl,_,_,_,_,_,_⟩:=aL p1;have t1:=u1.keep0 p3;have t2:=u2.keep0 p3;have v1:=t1.c1;have v2:=t2.c1;have v3:=t1.f1;have v4:=t2.f1;have Q1:=ab p1;have Q3:=ab p3;have Q4:=ab p4;have T1:=ab t1;have T2:=ab t2;clear p1 p2 p3 p4 p5 s1 s2 s3 s4 u1 u2 t1 t2;go_wp2;go_ret;exact ⟨rfl,ma b x y G L M w w1 w2 w3 na (.slice po lp cp) (.slice qo lq cq) HG.out hx hy A3.out G2.out P3.out Q3.out T1.out T2.out P1.out Q1.out P4.out Q4.out (A1.out.lt)⟩
theorem Ac (b:Nat) (y L M:Nat) (w:World) (hA:aB w b 0 0 L) (hB:aB w b 2 (y:Int) M) (hy:0<y) :
  Calls Tryz.prog 68 #[.pointer (some ⟨b,0,none⟩)] w fun e w'=>e=.returned (.pointer (some ⟨b,0,none⟩))/\bB w w' b/\aB w' b 0 0 L/\aB w' b 2 1 2:=by
 have HA:=ab hA;obtain ⟨na,va,a1,a2,a3,a4⟩:=hA;obtain ⟨nb,vb,b1,b2,b3,b4⟩:=hB;rw [Int.natAbs_natCast] at b2;have nbf:nb=false:=by rw [b3];simp
 subst nbf;have c0:=a1.c0;have c1:=a1.c1;have d0:=b1.c0;have d1:=b1.c1;obtain ⟨ao,la,ca,rfl,z1,z2,z3,z4,z5,z6⟩:=aL a2;obtain ⟨bo,lb,cb,rfl,y1,y2,y3,y4,y5,y6⟩:=aL b2;have hla:((la:Int)==0)=true:=beq_iff_eq.2 (by have:=z1.2 rfl;omega);have hlb:((lb:Int)==0)=false:=beq_eq_false_iff_ne.2 (by omega);have A1:=ab a1;have A2:=ab a2;have A4:=ab a4;have A3:=ab a3;have B1:=ab b1;clear a1 a2 a3 a4 b1 b2 b3 b4 z1 z5 z6 y1 y5 y6;go_enter Tryz.func68,Tryz.ntmps68
 go_wp2_with fail;refine (kh b 2 false (.slice bo lb cb) 1 _ B1.out (by omega) (by omega)).mono ?_;rintro e w1 ⟨rfl,k1,k2,_⟩;have K1:=ab k1;have K2:=ab k2;clear k1 k2;go_wp2;go_ret;refine ⟨rfl,bB.of_put K1.out,?_,K2.out⟩;exact ⟨na,.slice ao la ca,A1.out.keep K1.out (.inr (.inl (by omega))),A2.out.keep K1.out.gr (fun k e h=>by cases e;exact A4.out h),A3.out,A4.out⟩
def bQ (w:World) (b:Nat) (x:Int) (y L:Nat):Prop:=aB w b 0 x L/\aB w b 2 (y:Int) L/\0<y/\Nat.gcd x.natAbs y=1
def fp (x:Int) (y:Nat):Int:=x / (Nat.gcd x.natAbs y:Nat)
def fe (x:Int) (y:Nat):Nat:=y / Nat.gcd x.natAbs y
theorem ya (x:Int) (y:Nat) (hy:0<y):Nat.gcd (fp x y).natAbs (fe x y)=1/\0<fe x y:=by
 have h0:0<Nat.gcd x.natAbs y:=Nat.gcd_pos_of_pos_right _ hy;have hd:0<fe x y:=Nat.div_pos (Nat.le_of_dvd hy (Nat.gcd_dvd_right _ _)) h0;refine ⟨?_,hd⟩;by_cases hx:x=0
 ·subst hx;unfold fp fe;simp only [Int.natAbs_zero,Nat.gcd_zero_left,Int.zero_ediv];exact Nat.div_self hy
 ·unfold fp fe;rw [(xS x y _ rfl hx hy).1];rw [Nat.gcd_div (Nat.gcd_dvd_left _ _) (Nat.gcd_dvd_right _ _)];exact Nat.div_self h0
theorem uA (b:Nat) (x:Int) (y L:Nat) (w:World) (hA:aB w b 0 x L) (hB:aB w b 2 (y:Int) L) (hy:0<y) (hL:L<=4000000000000) :
  Calls Tryz.prog 68 #[.pointer (some ⟨b,0,none⟩)] w fun e w'=>e=.returned (.pointer (some ⟨b,0,none⟩))/\bB w w' b/\bQ w' b (fp x y) (fe x y) (L+2):=by
 have hl:=ya x y hy;by_cases hx:x=0
 ·subst hx;refine (Ac b y L L w hA hB hy).mono ?_;rintro e w' ⟨rfl,k1,k2,k3⟩;have e1:fp 0 y=0:=by simp [fp]
  have e2:fe 0 y=1:=by unfold fe;simp only [Int.natAbs_zero,Nat.gcd_zero_left];exact Nat.div_self hy
  rw [e1,e2];exact ⟨rfl,k1,k2.mono (by omega),k3.mono (by omega),by omega,by simp⟩
 ·refine (Cg b x y L L w hA hB hx hy hL hL).mono ?_;rintro e w' ⟨rfl,k1,k2,k3⟩;exact ⟨rfl,k1,k2,k3,hl.2,hl.1⟩
theorem BD (b:Nat) (x:Int) (y L:Nat) (w:World) (na nb:Bool) (p q:Value) {n1 n2:Bool} {v1 v2:Value} (h1:gC w b 0 n1 v1) (h2:gC w b 2 n2 v2) (m1:aU w p x.natAbs L) (m2:aU w q y L) (hna:na=decide (x<0)) (hnb:nb=decide ((y:Int)<0)) (f1:az p≠some b) (f2:az q≠some b) :
  bB w ((((w.setCell ⟨b,0,none⟩ (.bool na)).setCell ⟨b,1,none⟩ p).setCell ⟨b,2,none⟩ (.bool nb)).setCell ⟨b,3,none⟩ q) b /\
  aB ((((w.setCell ⟨b,0,none⟩ (.bool na)).setCell ⟨b,1,none⟩ p).setCell ⟨b,2,none⟩ (.bool nb)).setCell ⟨b,3,none⟩ q) b 0 x L /\
  aB ((((w.setCell ⟨b,0,none⟩ (.bool na)).setCell ⟨b,1,none⟩ p).setCell ⟨b,2,none⟩ (.bool nb)).setCell ⟨b,3,none⟩ q) b 2 (y:Int) L:=by
 have P1:fY w ((w.setCell ⟨b,0,none⟩ (.bool na)).setCell ⟨b,1,none⟩ p) b 0:=(fY.set _ (.inl rfl)).trans (fY.set _ (.inr rfl));have P2:fY ((w.setCell ⟨b,0,none⟩ (.bool na)).setCell ⟨b,1,none⟩ p) ((((w.setCell ⟨b,0,none⟩ (.bool na)).setCell ⟨b,1,none⟩ p).setCell ⟨b,2,none⟩ (.bool nb)).setCell ⟨b,3,none⟩ q) b 2:=(fY.set _ (.inl rfl)).trans (fY.set _ (.inr rfl));have b1:gC ((w.setCell ⟨b,0,none⟩ (.bool na)).setCell ⟨b,1,none⟩ p) b 0 na p:=by
  refine ⟨?_,?_,(P1.fr 0).trans h1.f0,(P1.fr 1).trans h1.f1⟩
  ·rw [World.cell?_setCell_other _ _ _ _ (by simp)];exact World.cell?_setCell_same _ _ _ h1.c0
  ·exact World.cell?_setCell_same _ _ _ (by rw [World.cell?_setCell_other _ _ _ _ (by simp)];exact h1.c1)
 have c2:gC ((w.setCell ⟨b,0,none⟩ (.bool na)).setCell ⟨b,1,none⟩ p) b 2 n2 v2:=h2.keep P1 (.inr (.inr (by omega)));refine ⟨(bB.of_put P1).trans (bB.of_put P2),?_,?_⟩
 ·exact ⟨na,p,b1.keep P2 (.inr (.inl (by omega))),(m1.keep P1.gr (fun k e h=>by cases e;exact f1 h)).keep P2.gr (fun k e h=>by cases e;exact f1 h),hna,f1⟩
 ·refine ⟨nb,q,⟨?_,?_,(P2.fr 2).trans c2.f0,(P2.fr 3).trans c2.f1⟩,?_,hnb,f2⟩
  ·rw [World.cell?_setCell_other _ _ _ _ (by simp)];exact World.cell?_setCell_same _ _ _ c2.c0
  ·exact World.cell?_setCell_same _ _ _ (by rw [World.cell?_setCell_other _ _ _ _ (by simp)];exact c2.c1)
  ·rw [Int.natAbs_natCast];exact (m2.keep P1.gr (fun k e h=>by cases e;exact f2 h)).keep P2.gr (fun k e h=>by cases e;exact f2 h)
theorem dJ (bz ba oa bb ob:Nat) (n1 n2:Bool) (v1 v2:Value) (x:Int) (y L:Nat) (w:World) (hz1:gC w bz 0 n1 v1) (hz2:gC w bz 2 n2 v2) (hA:aB w ba oa x L) (hB:aB w bb ob (y:Int) L) (hy:0<y) (hL:L<=4000000000000) :
  Calls Tryz.prog 31 #[.pointer (some ⟨bz,0,none⟩),.pointer (some ⟨ba,oa,none⟩),.pointer (some ⟨bb,ob,none⟩)] w fun e w'=>e=.returned (.pointer (some ⟨bz,0,none⟩))/\bB w w' bz/\bQ w' bz (fp x y) (fe x y) (L+2):=by
 have HA:=ab hA;have HB:=ab hB;have Z1:=ab hz1;have Z2:=ab hz2;have hzl:=hz1.lt;obtain ⟨nb,vb,b1,b2,b3,b4⟩:=hB;rw [Int.natAbs_natCast] at b2;obtain ⟨bo,lb,cb,rfl,y1,y2,y3,y4,y5,y6⟩:=aL b2;have d1:=b1.c1;have hlb:((lb:Int)==0)=false:=beq_eq_false_iff_ne.2 (by omega);clear b1 b2 b3 b4 y1 y5 y6 hz1 hz2 hA;go_enter Tryz.func31,Tryz.ntmps31
 go_wp2_with fail;have g1:=ag (ae w none) (.cells #[.bool false,.slice none 0 0] 45);refine (sK w.heap.size 0 ba oa false (.slice none 0 0) x L _ (gh w) (HA.out.keep0 g1) (by omega)).mono ?_;rintro e w1 ⟨rfl,k1,k2,k4⟩;have K4:=ab k4;clear k4;have G1:=ab (cH g1 k1 (Nat.le_refl _));have K2:=ab k2;clear k1 k2 g1 d1;go_wp2_with fail;have g2:=ag (ae w1 none) (.cells #[.bool false,.slice none 0 0] 45);refine (sK w1.heap.size 0 bb ob false (.slice none 0 0) (y:Int) L _ (gh w1) ((HB.out.keep0 G1.out).keep0 g2) (by omega)).mono ?_;rintro e w2 ⟨rfl,k1,k3,k5⟩;have K5:=ab k5;clear k5;have G2:=ab (cH g2 k1 (Nat.le_refl _));have K3:=ab k3;clear k1 k3 g2;have hs1:w.heap.size<w1.heap.size:=K2.out.lt;obtain ⟨na,va,a1,a2,a3,a4⟩:=K2.out.keep0 G2.out;obtain ⟨nb',vb',b1,b2,b3,b4⟩:=K3.out;have z1:=(Z1.out.keep0 G1.out).keep0 G2.out;have z2:=(Z2.out.keep0 G1.out).keep0 G2.out;obtain ⟨po,lp,cp,rfl,_,_,_,_,_,_⟩:=aL a2;obtain ⟨qo,lq,cq,rfl,_,_,_,_,_,_⟩:=aL b2;have m0:=a1.c0;have m1:=a1.c1;have m2:=b1.c0;have m3:=b1.c1;have x0:=z1.c0;have x1:=z1.c1;have x2:=z2.c0;have x3:=z2.c1;have f0:=z1.f0;have f1:=z1.f1;have f2:=z2.f0;have f3:=z2.f1;have A1:=ab a1;have A2:=ab a2;have A3:=ab a3;have A4:=ab a4;have B1:=ab b1;have B2:=ab b2;have B3:=ab b3;have B4:=ab b4;have ZZ1:=ab z1;have ZZ2:=ab z2;clear a1 a2 a3 a4 b1 b2 b3 b4 z1 z2;simp only [Nat.zero_add] at m0 m1 m2 m3 x0 x1 x2 x3 f0 f1 f2 f3;have F1:Hid (az (.slice po lp cp)≠some bz):=by
  intro e;have:=K4.out _ (by rw [<- A1.out.c1];exact (World.cell?_of_block (w:=w1) (a:=⟨w.heap.size,0+1,none⟩) (G2.out.block _ hs1 (by simp))).symm) bz e;simp at this;omega
 have F2:Hid (az (.slice qo lq cq)≠some bz):=by
  intro e;have:=K5.out _ B1.out.c1 bz e;have h2:=G1.out.size;simp at this;omega
 go_wp2_with fail;obtain ⟨r1,r2,r3⟩:=BD bz x y L w2 na nb' (.slice po lp cp) (.slice qo lq cq) ZZ1.out ZZ2.out A2.out (by rw [Int.natAbs_natCast] at B2;exact B2.out) A3.out B3.out F1.out F2.out;refine (uA bz x y L _ r2 r3 hy hL).mono ?_;rintro e w3 ⟨rfl,k1,k2⟩;have RR:=ab ((bB.of_gr (aa G1.out G2.out)).trans (r1.trans k1));have KK:=ab k2;clear r1 r2 r3 k1 k2;go_wp2;go_ret;exact ⟨rfl,RR.out,KK.out⟩
end Go.Proofs.YthblidglcppakaaGreatDoor
