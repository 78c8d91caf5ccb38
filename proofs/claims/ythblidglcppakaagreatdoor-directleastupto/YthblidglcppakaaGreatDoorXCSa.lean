/- Contracts that the proof leans on. -/
import Derived.Test.YthblidglcppakaaGreatDoorXCFe
import Derived.Deep.RegionHeld3
import Derived.Deep.DeepCutAuto
namespace Go.Proofs.YthblidglcppakaaGreatDoor
open Go.RowKit
set_option linter.unusedVariables false
set_option linter.unusedSimpArgs false
set_option maxHeartbeats 8000000
set_option maxRecDepth 10000
def aW (w w':World):Prop:=w.heap.size<=w'.heap.size/\∀ a (x:Nat),w.cell? a=some (.int .u32 (x:Nat))->w'.cell? a=some (.int .u32 (x:Nat))
theorem aW.refl (w:World):aW w w:=⟨Nat.le_refl _,fun _ _ h=>h⟩
theorem aW.trans {w w1 w2:World} (h:aW w w1) (k:aW w1 w2):aW w w2:=⟨Nat.le_trans h.1 k.1,fun a x e=>k.2 a x (h.2 a x e)⟩
theorem cV {w:World} {a:Addr} {v:Value} (h:w.cell? a=some v):a.block<w.heap.size:=by
 rcases Nat.lt_or_ge a.block w.heap.size with hl | hl
 ·exact hl
 ·simp [World.cell?,Array.getElem?_eq_none hl] at h
theorem aW.of_gr {w w':World} (h:w.grownBy w' none):aW w w' :=
 ⟨h.size,fun a x e=>by rw [World.cell?_of_block (h.block a.block (cV e) (by simp))];exact e⟩
theorem aU.kept {w w':World} {v:Value} {n L:Nat} (h:aU w v n L) (k:aW w w'):aU w' v n L:=by
 obtain ⟨xs,h1,h2,h3,h4⟩:=h;refine ⟨xs,⟨h1.sm,?_⟩,h2,h3,h4⟩;rcases h1.sh with h | ⟨b,off,cap,rfl,hb,hl,hm,hc⟩
 ·exact .inl h
 ·exact .inr ⟨b,off,cap,rfl,Nat.lt_of_lt_of_le hb k.1,hl,hm,fun i hi=>k.2 _ _ (hc i hi)⟩
theorem FV.kept {w w':World} {v:Value} {neg:Bool} {n d L:Nat} (h:FV w v neg n d L) (k:aW w w'):FV w' v neg n d L:=by
 obtain ⟨up,down,e,h1,h2,h3,h4⟩:=h;refine ⟨up,down,e,h1.kept k,?_,h3,h4⟩;rcases h2 with h2 | ⟨h2,h5⟩
 ·exact .inl h2
 ·exact .inr ⟨h2.kept k,h5⟩
theorem FQ.kept {w w':World} {v:Value} {q:Rat} {L:Nat} (h:FQ w v q L) (k:aW w w'):FQ w' v q L:=FV.kept h k
theorem aW.set {w:World} {b i:Nat} {cur:Array Value} {e:TypeId} (hb:w.heap[b]? = some (.cells cur e (0,0))) (hi:∀ x:Nat,cur[i]?≠some (.int .u32 (x:Nat))) (v:Value):aW w (w.setCell ⟨b,i,none⟩ v):=by
 refine ⟨by simp,?_⟩;rintro ⟨b2,i2,f2⟩ x h;by_cases hbb:b2=b
 ·subst hbb;have hs:=heap_setCell_same w b2 i cur e v hb;by_cases hii:i2=i
  ·subst hii;cases f2 with
   | none =>
    simp only [World.cell?,hb] at h;exact absurd h (hi x)
   | some g=>simp [World.cell?,hb] at h
  ·cases f2 with
   | none =>
    simp only [World.cell?,hb] at h;simp only [World.cell?,hs];rw [Array.getElem?_setIfInBounds_ne (fun e=>hii e.symm)];exact h
   | some g=>simp [World.cell?,hb] at h
 ·have ho:=heap_setCell_other w ⟨b,i,none⟩ b2 v hbb;rw [World.cell?_of_block ho];exact h
def bM (L:Nat) (q:Rat):Prop:=rN q<4294967296^L/\q.den<4294967296^L
theorem FQ.tight {w:World} {v:Value} {q:Rat} {L L':Nat} (h:FQ w v q L) (k:bM L' q):FQ w v q L':=by
 obtain ⟨up,down,e,h1,h2,h3,h4⟩:=h;refine ⟨up,down,e,h1.tight k.1,?_,h3,h4⟩;rcases h2 with h2 | ⟨h2,h5⟩
 ·exact .inl h2
 ·exact .inr ⟨h2.tight k.2,h5⟩
def aH (w:World) (b n:Nat) (R:Nat->Rat) (L:Nat):Prop :=
 ∃ cur e,w.heap[b]? = some (.cells cur e (0,0))/\∀ i,i<n->∃ u d,cur[i*3]? = some (.bool (rB (R i)))/\cur[i*3+1]? = some u/\cur[i*3+2]? = some d/\FQ w (.agg #[.bool (rB (R i)),u,d]) (R i) L
theorem aH.lt {w:World} {b n L:Nat} {R:Nat->Rat} (h:aH w b n R L):b<w.heap.size:=by
 obtain ⟨cur,e,hb,_⟩:=h;exact (Array.getElem?_eq_some_iff.1 hb).1
theorem aH.keep {w w':World} {b n L:Nat} {R:Nat->Rat} {r:Option Nat} (h:aH w b n R L) (g:w.grownBy w' r) (k:aW w w') (hr:some b≠r):aH w' b n R L:=by
 have hl:=h.lt;obtain ⟨cur,e,hb,hc⟩:=h;refine ⟨cur,e,by rw [g.block b hl hr];exact hb,fun i hi=>?_⟩;obtain ⟨u,d,c0,c1,c2,c3⟩:=hc i hi;exact ⟨u,d,c0,c1,c2,c3.kept k⟩
theorem aH.keep0 {w w':World} {b n L:Nat} {R:Nat->Rat} (h:aH w b n R L) (g:w.grownBy w' none):aH w' b n R L:=h.keep g (aW.of_gr g) (by simp)
theorem aH.congr {w:World} {b n L:Nat} {R R':Nat->Rat} (h:aH w b n R L) (e:∀ i,i<n->R i=R' i):aH w b n R' L:=by
 obtain ⟨cur,ty,hb,hc⟩:=h;refine ⟨cur,ty,hb,fun i hi=>?_⟩;rw [<- e i hi];exact hc i hi
theorem aH.at {w:World} {b n L:Nat} {R:Nat->Rat} (h:aH w b n R L) (i:Nat) (hi:i<n) :
  ∃ uo ul uc do_ dl dc,w.cell? ⟨b,i*3,none⟩=some (.bool (rB (R i)))/\w.cell? ⟨b,i*3+1,none⟩=some (.slice uo ul uc)/\w.cell? ⟨b,i*3+2,none⟩=some (.slice do_ dl dc)
   /\ FQ w (.agg #[.bool (rB (R i)),.slice uo ul uc,.slice do_ dl dc]) (R i) L/\∀ k,w.frozen? ⟨b,k,none⟩=false:=by
 obtain ⟨cur,e,hb,hc⟩:=h;obtain ⟨u,d,c0,c1,c2,c3⟩:=hc i hi;obtain ⟨uo,ul,uc,do_,dl,dc,hs⟩:=c3.shape;simp only [Value.agg.injEq,Array.mk.injEq,List.cons.injEq,and_true,true_and] at hs;obtain ⟨rfl,rfl⟩:=hs;exact ⟨uo,ul,uc,do_,dl,dc,by simp only [World.cell?,hb];exact c0,by simp only [World.cell?,hb];exact c1,by simp only [World.cell?,hb];exact c2,c3,fun k=>by simp [World.frozen?,hb]⟩
def bg (R:Nat->Rat) (i:Nat) (q:Rat):Nat->Rat:=fun j=>if j=i then q else R j
theorem set3 {w:World} {b k:Nat} {cur:Array Value} {e:TypeId} (hb:w.heap[b]? = some (.cells cur e (0,0))) {x0 x1 x2:Value} (c0:cur[k]? = some x0) (c1:cur[k+1]? = some x1) (c2:cur[k+2]? = some x2)
  (n0:∀ x:Nat,x0≠.int .u32 (x:Nat)) (n1:∀ x:Nat,x1≠.int .u32 (x:Nat)) (n2:∀ x:Nat,x2≠.int .u32 (x:Nat)) (y0 y1 y2:Value) :
  ∃ cur',(((w.setCell ⟨b,k,none⟩ y0).setCell ⟨b,k+1,none⟩ y1).setCell ⟨b,k+2,none⟩ y2).heap[b]? = some (.cells cur' e (0,0))
   /\ cur'[k]? = some y0/\cur'[k+1]? = some y1/\cur'[k+2]? = some y2/\(∀ j,j≠k->j≠k+1->j≠k+2->cur'[j]? = cur[j]?)
   /\ aW w (((w.setCell ⟨b,k,none⟩ y0).setCell ⟨b,k+1,none⟩ y1).setCell ⟨b,k+2,none⟩ y2):=by
 have l0:=(Array.getElem?_eq_some_iff.1 c0).1;have l1:=(Array.getElem?_eq_some_iff.1 c1).1;have l2:=(Array.getElem?_eq_some_iff.1 c2).1;have h1:=heap_setCell_same w b k cur e y0 hb;have h2:=heap_setCell_same (w.setCell ⟨b,k,none⟩ y0) b (k+1) (cur.setIfInBounds k y0) e y1 h1;have h3:=heap_setCell_same ((w.setCell ⟨b,k,none⟩ y0).setCell ⟨b,k+1,none⟩ y1) b (k+2) ((cur.setIfInBounds k y0).setIfInBounds (k+1) y1) e y2 h2;have k1:aW w (w.setCell ⟨b,k,none⟩ y0):=aW.set hb (fun x e=>by rw [c0] at e;exact n0 x (Option.some.inj e)) y0;have k2:=aW.set h1 (i:=k+1) (fun x e=>by rw [Array.getElem?_setIfInBounds_ne (by omega),c1] at e;exact n1 x (Option.some.inj e)) y1;have k3:=aW.set h2 (i:=k+2) (fun x e=>by rw [Array.getElem?_setIfInBounds_ne (by omega),Array.getElem?_setIfInBounds_ne (by omega),c2] at e;exact n2 x (Option.some.inj e)) y2;refine ⟨((cur.setIfInBounds k y0).setIfInBounds (k+1) y1).setIfInBounds (k+2) y2,h3,?_,?_,?_,?_,(k1.trans k2).trans k3⟩
 ·rw [Array.getElem?_setIfInBounds_ne (by omega),Array.getElem?_setIfInBounds_ne (by omega),Array.getElem?_setIfInBounds_self_of_lt l0]
 ·rw [Array.getElem?_setIfInBounds_ne (by omega),Array.getElem?_setIfInBounds_self_of_lt (by simpa using l1)]
 ·rw [Array.getElem?_setIfInBounds_self_of_lt (by simpa using l2)]
 ·intro j j0 j1 j2;rw [Array.getElem?_setIfInBounds_ne (by omega),Array.getElem?_setIfInBounds_ne (by omega),Array.getElem?_setIfInBounds_ne (by omega)]
theorem aH.set {w:World} {b n L:Nat} {R:Nat->Rat} (h:aH w b n R L) (i:Nat) (hi:i<n) {q:Rat} {uo do_:Option Addr} {ul uc dl dc:Nat} (hq:FQ w (.agg #[.bool (rB q),.slice uo ul uc,.slice do_ dl dc]) q L) :
  aH (((w.setCell ⟨b,i*3,none⟩ (.bool (rB q))).setCell ⟨b,i*3+1,none⟩ (.slice uo ul uc)).setCell ⟨b,i*3+2,none⟩ (.slice do_ dl dc)) b n (bg R i q) L
  /\ w.grownBy (((w.setCell ⟨b,i*3,none⟩ (.bool (rB q))).setCell ⟨b,i*3+1,none⟩ (.slice uo ul uc)).setCell ⟨b,i*3+2,none⟩ (.slice do_ dl dc)) (some b)
  /\ aW w (((w.setCell ⟨b,i*3,none⟩ (.bool (rB q))).setCell ⟨b,i*3+1,none⟩ (.slice uo ul uc)).setCell ⟨b,i*3+2,none⟩ (.slice do_ dl dc)):=by
 have hg:w.grownBy (((w.setCell ⟨b,i*3,none⟩ (.bool (rB q))).setCell ⟨b,i*3+1,none⟩ (.slice uo ul uc)).setCell ⟨b,i*3+2,none⟩ (.slice do_ dl dc)) (some b) :=
  ⟨rfl,rfl,rfl,by simp,fun k _ hr=>by
   have hk:k≠b:=fun e=>hr (by rw [e])
   rw [heap_setCell_other _ _ k _ hk,heap_setCell_other _ _ k _ hk,heap_setCell_other _ _ k _ hk]⟩
 obtain ⟨cur,e,hb,hc⟩:=h;obtain ⟨u0,d0,c0,c1,c2,c3⟩:=hc i hi;obtain ⟨uo2,ul2,uc2,do2,dl2,dc2,hs⟩:=c3.shape;simp only [Value.agg.injEq,Array.mk.injEq,List.cons.injEq,and_true,true_and] at hs;obtain ⟨hs1,hs2⟩:=hs;obtain ⟨cur',g3,g0,g1,g2,gn,kk⟩:=set3 hb c0 c1 c2 (fun x e=>by simp at e) (fun x e=>by rw [hs1] at e;simp at e) (fun x e=>by rw [hs2] at e;simp at e) (.bool (rB q)) (.slice uo ul uc) (.slice do_ dl dc);generalize (((w.setCell ⟨b,i*3,none⟩ (.bool (rB q))).setCell ⟨b,i*3+1,none⟩ (.slice uo ul uc)).setCell ⟨b,i*3+2,none⟩ (.slice do_ dl dc))=w3 at hg g3 kk;refine ⟨⟨cur',e,g3,fun j hj=>?_⟩,hg,kk⟩;by_cases hji:j=i
 ·have hp:bg R i q j=q:=by unfold bg;rw [if_pos hji]
  rw [hp,hji];exact ⟨.slice uo ul uc,.slice do_ dl dc,g0,g1,g2,hq.kept kk⟩
 ·obtain ⟨u,d,e0,e1,e2,e3⟩:=hc j hj;have hp:bg R i q j=R j:=by unfold bg;rw [if_neg hji]
  rw [hp];exact ⟨u,d,by rw [gn _ (by omega) (by omega) (by omega)];exact e0,by rw [gn _ (by omega) (by omega) (by omega)];exact e1,by rw [gn _ (by omega) (by omega) (by omega)];exact e2,e3.kept kk⟩
abbrev jI (b:Bool) (u d:Value):Value:=.agg #[.bool b,u,d,.func (.func 99) #[] #[],.func (.func 100) #[] #[],.func (.func 81) #[] #[],.func (.func 101) #[] #[],.func (.func 102) #[] #[],.func (.func 103) #[] #[],.func (.func 104) #[] #[],.func (.func 105) #[] #[]]
def fi (R:Nat->Rat) (q:Rat) (i:Nat):Nat->Rat:=fun j=>if j<i then R j*q else R j
theorem vF (R:Nat->Rat) (q:Rat) (i j:Nat):bg (fi R q i) i (R i*q) j=fi R q (i+1) j:=by
 unfold bg fi;by_cases h:j=i
 ·rw [if_pos h,if_pos (by omega),h]
 ·rw [if_neg h];by_cases h2:j<i
  ·rw [if_pos h2,if_pos (by omega)]
  ·rw [if_neg h2,if_neg (by omega)]
theorem sR (R:Nat->Rat) (q:Rat) (i j:Nat) (h:R i=0):fi R q i j=fi R q (i+1) j:=by
 unfold fi;by_cases h2:j<i
 ·rw [if_pos h2,if_pos (by omega)]
 ·rw [if_neg h2];by_cases h3:j=i
  ·subst h3;rw [if_pos (by omega),h,Rat.zero_mul]
  ·rw [if_neg (by omega)]
def aX (w w':World) (b:Nat):Prop:=w.grownBy w' (some b)/\aW w w'
theorem aX.refl (w:World) (b:Nat):aX w w b:=⟨ae _ _,aW.refl _⟩
theorem aX.trans {w w1 w2:World} {b:Nat} (h:aX w w1 b) (k:aX w1 w2 b):aX w w2 b:=⟨aq h.1 k.1 (fun _ _ e=>e) (fun _ _ e=>e),h.2.trans k.2⟩
theorem aX.of_gr {w w':World} {b:Nat} (h:w.grownBy w' none):aX w w' b:=⟨aq h (ae _ none) (fun _ _ e=>by cases e) (fun _ _ e=>by cases e),aW.of_gr h⟩
theorem aX.gr {w w1 w2:World} {b:Nat} (h:aX w w1 b) (k:w1.grownBy w2 none):aX w w2 b:=h.trans (aX.of_gr k)
def TimR (W:World) (b n:Nat) (R:Nat->Rat) (q:Rat) (L:Nat) (v:Value) (wr:World):Prop :=
 ∃ i:Nat,i<=n/\v=.int .i64 i/\aH wr b n (fi R q i) L/\aX W wr b
theorem mw (fb:Bool) (fu fd:Value) (b n cap:Nat) (R:Nat->Rat) (q:Rat) (yv:Value) (L:Nat) (w:World) (hr:aH w b n R L) (hy:FQ w yv q L) (hn:n<=cap) (hc:cap<=maxLen) (hL:L<=100000000)
  (hfit:∀ i,i<n->bM L (R i*q)) :
  Calls Tryz.prog 196 #[jI fb fu fd,.slice (some ⟨b,0,none⟩) n cap,yv] w
   fun e w'=>e=.returned (.tuple #[])/\aH w' b n (fun i=>R i*q) L/\aX w w' b:=by
 unfold maxLen at hc;have HR:=ab hr;have HY:=ab hy;have HF:=ab hfit;have hbl:=hr.lt;obtain ⟨yo,yl,yc,zo,zl,zc,rfl⟩:=hy.shape;clear hr hy hfit;obtain ⟨W,hW⟩:∃ W,W=(w.alloc (Obj.cells #[.bool fb,fu,fd,.func (.func 99) #[] #[],.func (.func 100) #[] #[],.func (.func 81) #[] #[],.func (.func 101) #[] #[],.func (.func 102) #[] #[],.func (.func 103) #[] #[],.func (.func 104) #[] #[],.func (.func 105) #[] #[]] 126)).alloc (Obj.cells #[.bool (rB q),.slice yo yl yc,.slice zo zl zc] 91):=⟨_,rfl⟩;have GW:Hid (w.grownBy W none):=by rw [hW];exact ag (ag (ae _ _) _) _
 have CELLS:Hid (∀ wx,W.grownBy wx (some b)->wx.cell? ⟨w.heap.size,8,none⟩=some (.func (.func 103) #[] #[])/\wx.cell? ⟨w.heap.size,6,none⟩=some (.func (.func 101) #[] #[])/\wx.cell? ⟨w.heap.size+1,0,none⟩=some (.bool (rB q))/\wx.cell? ⟨w.heap.size+1,1,none⟩=some (.slice yo yl yc)/\wx.cell? ⟨w.heap.size+1,2,none⟩=some (.slice zo zl zc)):=by
  intro wx hg;rw [hW] at hg;have n1:some w.heap.size≠some b:=fun e=>by have:=Option.some.inj e;omega
  have n2:some (w.heap.size+1)≠some b:=fun e=>by have:=Option.some.inj e;omega
  exact ⟨hg.cell (by go_simp) n1,hg.cell (by go_simp) n1,hg.cell (by go_simp) n2,hg.cell (by go_simp) n2,hg.cell (by go_simp) n2⟩
 have HWS:Hid (w.heap.size+1<W.heap.size):=by show _<_;rw [hW];simp
 go_enter Tryz.func196,Tryz.ntmps196
 go_wp2;rw [<- hW];clear hW;go_loopw [10] (fun v wr=>Hid (TimR W b n R q L v wr)) (fun v _=>n-(intOf v).toNat)
 case atStart=>exact ⟨0,by omega,rfl,(HR.out.keep0 GW.out).congr (fun i _=>by unfold fi;rw [if_neg (by omega)]),aX.refl _ _⟩
 case round =>
  obtain ⟨i,hi,rfl,l1,l2⟩:=hrel.out;have L1:=ab l1;have L2:=ab l2;clear l1 l2 hrel;by_cases hlt:i<n
  ·obtain ⟨uo,ul,uc,do_,dl,dc,c0,c1,c2,c3,cf⟩:=L1.out.at i hlt;have hRi:fi R q i i=R i:=by unfold fi;rw [if_neg (by omega)]
   rw [hRi] at c0 c3;have C3:=ab c3;obtain ⟨f8,f6,y0,y1,y2⟩:=CELLS.out wr L2.out.1;clear c3 cf hRi;go_upto_region 4 with fail;obtain ⟨w2,hw2⟩:∃ w2,w2=wr.alloc (Obj.cells #[.bool (rB (R i)),.slice uo ul uc,.slice do_ dl dc] 91):=⟨_,rfl⟩;have G2:Hid (wr.grownBy w2 none):=by rw [hw2];exact ag (ae _ _) _
   have XC:Hid (∀ wx,w2.grownBy wx none->wx.cell? ⟨wr.heap.size,0,none⟩=some (.bool (rB (R i)))/\wx.cell? ⟨wr.heap.size,1,none⟩=some (.slice uo ul uc)/\wx.cell? ⟨wr.heap.size,2,none⟩=some (.slice do_ dl dc)):=by
    intro wx hg;rw [hw2] at hg;exact aJ hg
   rw [<- hw2];clear hw2 f8 f6 y0 y1 y2 c0 c1 c2;obtain ⟨x0,x1,x2⟩:=XC.out w2 (ae _ _);have LL2:=ab (L2.out.gr G2.out);obtain ⟨f8,f6,y0,y1,y2⟩:=CELLS.out w2 LL2.out.1;go_wp2_with fail;refine (bq _ (R i) L _ (C3.out.keep0 G2.out)).mono ?_;rintro e w3 ⟨rfl,g3⟩;obtain ⟨x0',x1',x2'⟩:=XC.out w3 g3;have G3:=ab (aa G2.out g3);clear x0 x1 x2 f8 f6 y0 y1 y2;by_cases hz:R i=0
   ·have hzd:decide (R i=0)=true:=decide_eq_true hz;rw [hzd];have HZ:=ab hz;clear hz hzd g3;go_wp2;go_roundw
    case rel=>exact ⟨i+1,by omega,by go_num,(L1.out.keep0 G3.out).congr (fun j _=>sR R q i j HZ.out),L2.out.gr G3.out⟩
    case measure=>simp [intOf];omega
   ·have hzd:decide (R i=0)=false:=decide_eq_false hz;rw [hzd];clear hz hzd g3;have L3:=ab (L2.out.gr G3.out);obtain ⟨f8',f6',y0',y1',y2'⟩:=CELLS.out w3 L3.out.1;go_wp2_with fail;refine (eM _ _ (R i) q L L _ (C3.out.keep0 G3.out) (HY.out.kept ((aW.of_gr GW.out).trans L3.out.2)) (by omega)).mono ?_;rintro e w4 ⟨v4,rfl,p1,p2⟩;have F4:=ab (aH.keep0 (L1.out.keep0 G3.out) p2);obtain ⟨ao,al,ac,bo,bl,bc,rfl⟩:=p1.shape;have P1:=ab (p1.tight (HF.out i hlt));have L4:=ab (L3.out.gr p2);obtain ⟨_,_,_,_,_,_,d0,d1,d2,_,df⟩:=F4.out.at i hlt;have df0:=df (i*3);have df1:=df (i*3+1);have df2:=df (i*3+2);clear p1 p2 df f8' f6' y0' y1' y2' x0' x1' x2';go_wp2;go_roundw
    case rel =>
     obtain ⟨r1,r2,r3⟩:=F4.out.set i hlt P1.out;exact ⟨i+1,by omega,by go_num,r1.congr (fun j _=>vF R q i j),L4.out.trans ⟨r2,r3⟩⟩
    case measure=>simp [intOf];omega
  ·obtain rfl:i=n:=by omega
   go_wp2;go_end0
   exact ⟨rfl,L1.out.congr (fun j hj=>by unfold fi;rw [if_pos hj]),(aX.of_gr GW.out).trans L2.out⟩
theorem FQ.fits {w:World} {v:Value} {q:Rat} {L:Nat} (h:FQ w v q L) (hL:1<=L):bM L q:=by
 obtain ⟨up,down,e,h1,h2,h3,h4⟩:=h;refine ⟨h1.lt,?_⟩;rcases h2 with ⟨_,h2⟩ | ⟨h2,_⟩
 ·rw [h2];exact Nat.lt_of_lt_of_le (by decide:1<4294967296^1) (Nat.pow_le_pow_right (by decide) hL)
 ·exact h2.lt
theorem bM.neg {L:Nat} {q:Rat} (h:bM L q):bM L (-q):=by
 obtain ⟨h1,h2,h3⟩:=Ci q;unfold bM;rw [h2,h3];exact h
def sT (x:Rat):Rat:=if x=0 then -1 else 1
theorem FV.parts {w:World} {u d:Value} {b neg:Bool} {n m L:Nat} (h:FV w (.agg #[.bool b,u,d]) neg n m L):b=neg:=by
 obtain ⟨_,_,e,_⟩:=h;simp only [Value.agg.injEq,Array.mk.injEq,List.cons.injEq,and_true,Value.bool.injEq] at e;exact e.1
theorem uf (fb:Bool) (fo fo2:Option Addr) (fl fc fl2 fc2:Nat) (b n cap k:Nat) (R:Nat->Rat) (d:Rat) (lv:Value) (L:Nat) (w:World) (hr:aH w b n R L) (hy:FQ w lv d L) (h1:FQ w (.agg #[.bool fb,.slice fo fl fc,.slice fo2 fl2 fc2]) 1 L)
  (hk:k<n) (hn:n<=cap) (hc:cap<=maxLen) (hL1:1<=L) (hL:L<=100000000) :
  Calls Tryz.prog 176 #[(jI fb (.slice fo fl fc) (.slice fo2 fl2 fc2)),.slice (some ⟨b,0,none⟩) n cap,.int .i64 (k:Nat),lv] w
   fun e w'=>e=.returned (.tuple #[])/\aH w' b n (fun i=>sT (R k+d)*R i) L/\aX w w' b:=by
 have HR:=ab hr;have HY:=ab hy;have H1:=ab h1;have HC:=ab hc;unfold maxLen at hc;have hbl:=hr.lt;obtain ⟨lo,ll,lc,lo2,ll2,lc2,rfl⟩:=hy.shape;obtain ⟨uo,ul,uc,vo,vl,vc,c0,c1,c2,c3,_⟩:=hr.at k hk;have C3:=ab c3;have HFIT:Hid (∀ i,i<n->bM L (R i*(0-1))):=by
  intro i hi;obtain ⟨_,_,_,_,_,_,_,_,_,h,_⟩:=HR.out.at i hi;have e:R i*(0-1) = -(R i):=by grind
  rw [e];exact (h.fits hL1).neg
 have HM1:Hid (bM L (0-1)):=by
  have e:(0:Rat)-1 = -1:=by grind
  rw [e];exact (h1.fits hL1).neg
 clear hr hy h1 c3;obtain ⟨W,hW⟩:∃ W,W=(w.alloc (Obj.cells #[.bool fb,.slice fo fl fc,.slice fo2 fl2 fc2,.func (.func 99) #[] #[],.func (.func 100) #[] #[],.func (.func 81) #[] #[],.func (.func 101) #[] #[],.func (.func 102) #[] #[],.func (.func 103) #[] #[],.func (.func 104) #[] #[],.func (.func 105) #[] #[]] 126)).alloc (Obj.cells #[.bool (rB d),.slice lo ll lc,.slice lo2 ll2 lc2] 91):=⟨_,rfl⟩;have GW:Hid (w.grownBy W none):=by rw [hW];exact ag (ag (ae _ _) _) _
 have CELLS:Hid (∀ wx,W.grownBy wx none->wx.cell? ⟨w.heap.size,3,none⟩=some (.func (.func 99) #[] #[])/\wx.cell? ⟨w.heap.size,4,none⟩=some (.func (.func 100) #[] #[])/\wx.cell? ⟨w.heap.size,5,none⟩=some (.func (.func 81) #[] #[])/\wx.cell? ⟨w.heap.size,6,none⟩=some (.func (.func 101) #[] #[])/\wx.cell? ⟨w.heap.size,7,none⟩=some (.func (.func 102) #[] #[])/\wx.cell? ⟨w.heap.size,8,none⟩=some (.func (.func 103) #[] #[])/\wx.cell? ⟨w.heap.size,9,none⟩=some (.func (.func 104) #[] #[])/\wx.cell? ⟨w.heap.size,10,none⟩=some (.func (.func 105) #[] #[])/\wx.cell? ⟨w.heap.size,0,none⟩=some (.bool fb)/\wx.cell? ⟨w.heap.size,1,none⟩=some (.slice fo fl fc)/\wx.cell? ⟨w.heap.size,2,none⟩=some (.slice fo2 fl2 fc2)/\wx.cell? ⟨w.heap.size+1,0,none⟩=some (.bool (rB d))/\wx.cell? ⟨w.heap.size+1,1,none⟩=some (.slice lo ll lc)/\wx.cell? ⟨w.heap.size+1,2,none⟩=some (.slice lo2 ll2 lc2)/\wx.cell? ⟨b,k*3,none⟩=some (.bool (rB (R k)))/\wx.cell? ⟨b,k*3+1,none⟩=some (.slice uo ul uc)/\wx.cell? ⟨b,k*3+2,none⟩=some (.slice vo vl vc)):=by
  intro wx hg;have hg2:=aa GW.out hg;rw [hW] at hg;exact ⟨hg.cell (by go_simp) (by simp),hg.cell (by go_simp) (by simp),hg.cell (by go_simp) (by simp),hg.cell (by go_simp) (by simp),hg.cell (by go_simp) (by simp),hg.cell (by go_simp) (by simp),hg.cell (by go_simp) (by simp),hg.cell (by go_simp) (by simp),hg.cell (by go_simp) (by simp),hg.cell (by go_simp) (by simp),hg.cell (by go_simp) (by simp),hg.cell (by go_simp) (by simp),hg.cell (by go_simp) (by simp),hg.cell (by go_simp) (by simp),hg2.cell c0 (by simp),hg2.cell c1 (by simp),hg2.cell c2 (by simp)⟩
 obtain ⟨s0,s1,s2,s3,s4,s5,s6,s7,s8,s9,s10,s11,s12,s13,s14,s15,s16⟩:=CELLS.out W (ae _ _);have GG:W.grownBy W none:=ae _ _;go_enter Tryz.func176,Tryz.ntmps176
 go_upto_region 1 with fail;rw [<- hW];clear hW c0 c1 c2;go_cut [19] (fun s19 wx=>Hid (s19=.bool (decide (R k+d=0))/\W.grownBy wx none))
 case first =>
  go_region_held3 (fun w'=>w'.cell? ⟨w.heap.size,3,none⟩=some (.func (.func 99) #[] #[])/\w'.cell? ⟨w.heap.size,4,none⟩=some (.func (.func 100) #[] #[])/\w'.cell? ⟨w.heap.size,5,none⟩=some (.func (.func 81) #[] #[])/\w'.cell? ⟨w.heap.size,6,none⟩=some (.func (.func 101) #[] #[])/\w'.cell? ⟨w.heap.size,7,none⟩=some (.func (.func 102) #[] #[])/\w'.cell? ⟨w.heap.size,8,none⟩=some (.func (.func 103) #[] #[])/\w'.cell? ⟨w.heap.size,9,none⟩=some (.func (.func 104) #[] #[])/\w'.cell? ⟨w.heap.size,10,none⟩=some (.func (.func 105) #[] #[])/\w'.cell? ⟨w.heap.size,0,none⟩=some (.bool fb)/\w'.cell? ⟨w.heap.size,1,none⟩=some (.slice fo fl fc)/\w'.cell? ⟨w.heap.size,2,none⟩=some (.slice fo2 fl2 fc2)/\w'.cell? ⟨w.heap.size+1,0,none⟩=some (.bool (rB d))/\w'.cell? ⟨w.heap.size+1,1,none⟩=some (.slice lo ll lc)/\w'.cell? ⟨w.heap.size+1,2,none⟩=some (.slice lo2 ll2 lc2)/\w'.cell? ⟨b,k*3,none⟩=some (.bool (rB (R k)))/\w'.cell? ⟨b,k*3+1,none⟩=some (.slice uo ul uc)/\w'.cell? ⟨b,k*3+2,none⟩=some (.slice vo vl vc)) (go_keep)
   (first | (go_at_call 100;refine (mf _ _ (R k) d L L _ (C3.out.keep0 (aa GW.out (by first | exact aa GG (aj _) | exact aa GG ah | exact GG))) (HY.out.keep0 (aa GW.out (by first | exact aa GG (aj _) | exact aa GG ah | exact GG))) (by omega)).mono ?_;rintro e wa ⟨va,rfl,pa,ga⟩;obtain ⟨ao,al,ac,bo,bl,bc,rfl⟩:=pa.shape;have GG:W.grownBy wa none:=aa (by first | exact aa GG (aj _) | exact aa GG ah | exact GG) ga;obtain ⟨a0,a1,a2,a3,a4,a5,a6,a7,a8,a9,a10,a11,a12,a13,a14,a15,a16⟩:=CELLS.out wa GG) | (go_at_call 103;refine (bq _ (R k+d) (L+L+2) _ (pa.keep0 (by first | exact aj _ | exact ah | exact ae _ _))).mono ?_;rintro e wx ⟨rfl,gx⟩;have GG:W.grownBy wx none:=aa (by first | exact aa GG (aj _) | exact aa GG ah | exact GG) gx;obtain ⟨x0,x1,x2,x3,x4,x5,x6,x7,x8,x9,x10,x11,x12,x13,x14,x15,x16⟩:=CELLS.out wx GG))
  all_goals (go_wp2_with fail;go_meet;exact ⟨rfl,(by first | exact aa GG (aj _) | exact aa GG ah | exact GG)⟩)
 case rest =>
  obtain ⟨rfl,g2⟩:=hcut.out;have G2:=ab g2;clear hcut s0 s1 s2 s3 s4 s5 s6 s7 s8 s9 s10 s11 s12 s13 s14 s15 s16 g2 GG;by_cases hz:R k+d=0
  ·have hzd:decide (R k+d=0)=true:=decide_eq_true hz;rw [hzd];have HT:Hid (sT (R k+d) = -1):=by show _=_;unfold sT;rw [if_pos hz]
   clear hz hzd;go_upto_region 3 with fail;obtain ⟨w3,hw3⟩:∃ w3,w3=wc.alloc (Obj.cells #[.bool false,.slice none 0 0,.slice none 0 0] 91):=⟨_,rfl⟩;have G3:Hid (wc.grownBy w3 none):=by rw [hw3];exact ag (ae _ _) _
   have ZC:Hid (∀ wx,w3.grownBy wx none->wx.cell? ⟨wc.heap.size,0,none⟩=some (.bool false)/\wx.cell? ⟨wc.heap.size,1,none⟩=some (.slice none 0 0)/\wx.cell? ⟨wc.heap.size,2,none⟩=some (.slice none 0 0)):=by
    intro wx hg;rw [hw3] at hg;exact aJ hg
   rw [<- hw3];clear hw3;have GG:w3.grownBy w3 none:=ae _ _;have GA:Hid (W.grownBy w3 none):=aa G2.out G3.out;have CB:Hid (∀ wx,w3.grownBy wx (some b)->wx.cell? ⟨w.heap.size,3,none⟩=some (.func (.func 99) #[] #[])/\wx.cell? ⟨w.heap.size,4,none⟩=some (.func (.func 100) #[] #[])/\wx.cell? ⟨w.heap.size,5,none⟩=some (.func (.func 81) #[] #[])/\wx.cell? ⟨w.heap.size,6,none⟩=some (.func (.func 101) #[] #[])/\wx.cell? ⟨w.heap.size,7,none⟩=some (.func (.func 102) #[] #[])/\wx.cell? ⟨w.heap.size,8,none⟩=some (.func (.func 103) #[] #[])/\wx.cell? ⟨w.heap.size,9,none⟩=some (.func (.func 104) #[] #[])/\wx.cell? ⟨w.heap.size,10,none⟩=some (.func (.func 105) #[] #[])/\wx.cell? ⟨w.heap.size,0,none⟩=some (.bool fb)/\wx.cell? ⟨w.heap.size,1,none⟩=some (.slice fo fl fc)/\wx.cell? ⟨w.heap.size,2,none⟩=some (.slice fo2 fl2 fc2)/\wx.cell? ⟨wc.heap.size,0,none⟩=some (.bool false)/\wx.cell? ⟨wc.heap.size,1,none⟩=some (.slice none 0 0)/\wx.cell? ⟨wc.heap.size,2,none⟩=some (.slice none 0 0)):=by
    intro wx hg;obtain ⟨z0,z1,z2⟩:=ZC.out w3 GG;obtain ⟨s0,s1,s2,s3,s4,s5,s6,s7,s8,s9,s10,s11,s12,s13,s14,s15,s16⟩:=CELLS.out w3 GA.out;have n1:some w.heap.size≠some b:=fun e=>by have:=Option.some.inj e;omega
    have n2:some wc.heap.size≠some b:=fun e=>by have:=Option.some.inj e;have:=(aa GW.out G2.out).size;omega
    exact ⟨hg.cell s0 n1,hg.cell s1 n1,hg.cell s2 n1,hg.cell s3 n1,hg.cell s4 n1,hg.cell s5 n1,hg.cell s6 n1,hg.cell s7 n1,hg.cell s8 n1,hg.cell s9 n1,hg.cell s10 n1,hg.cell z0 n2,hg.cell z1 n2,hg.cell z2 n2⟩
   obtain ⟨s0,s1,s2,s3,s4,s5,s6,s7,s8,s9,s10,s11,s12,s13⟩:=CB.out w3 (ae _ _);have hZ:FQ w3 (.agg #[.bool false,.slice none 0 0,.slice none 0 0]) 0 L:=by
    have e1:rB 0=false:=rfl;have e2:rN 0=0:=rfl;have e3:(0:Rat).den=1:=rfl;unfold FQ;rw [e1,e2,e3];exact ⟨_,_,rfl,⟨[],Ws.nil _,rfl,rfl,by simp⟩,.inl ⟨rfl,rfl⟩,rfl,by simp⟩
   have HZ:=ab hZ;clear hZ;go_region_held3 (fun w'=>w'.cell? ⟨w.heap.size,3,none⟩=some (.func (.func 99) #[] #[])/\w'.cell? ⟨w.heap.size,4,none⟩=some (.func (.func 100) #[] #[])/\w'.cell? ⟨w.heap.size,5,none⟩=some (.func (.func 81) #[] #[])/\w'.cell? ⟨w.heap.size,6,none⟩=some (.func (.func 101) #[] #[])/\w'.cell? ⟨w.heap.size,7,none⟩=some (.func (.func 102) #[] #[])/\w'.cell? ⟨w.heap.size,8,none⟩=some (.func (.func 103) #[] #[])/\w'.cell? ⟨w.heap.size,9,none⟩=some (.func (.func 104) #[] #[])/\w'.cell? ⟨w.heap.size,10,none⟩=some (.func (.func 105) #[] #[])/\w'.cell? ⟨w.heap.size,0,none⟩=some (.bool fb)/\w'.cell? ⟨w.heap.size,1,none⟩=some (.slice fo fl fc)/\w'.cell? ⟨w.heap.size,2,none⟩=some (.slice fo2 fl2 fc2)/\w'.cell? ⟨wc.heap.size,0,none⟩=some (.bool false)/\w'.cell? ⟨wc.heap.size,1,none⟩=some (.slice none 0 0)/\w'.cell? ⟨wc.heap.size,2,none⟩=some (.slice none 0 0)) (go_keep)
    (first | (go_at_call 81;refine (cZ _ _ 0 1 L L _ (HZ.out.keep0 (by first | exact aa GG (aj _) | exact aa GG ah | exact GG)) (H1.out.keep0 (aa GW.out (aa GA.out (by first | exact aa GG (aj _) | exact aa GG ah | exact GG)))) (by omega)).mono ?_;rintro e wa ⟨va,rfl,pa,ga⟩;have pa:=pa.tight (L':=L) HM1.out;obtain ⟨ao,al,ac,bo,bl,bc,rfl⟩:=pa.shape;have GG:w3.grownBy wa none:=aa (by first | exact aa GG (aj _) | exact aa GG ah | exact GG) ga;obtain ⟨a0,a1,a2,a3,a4,a5,a6,a7,a8,a9,a10,a11,a12,a13⟩:=CB.out wa (aX.of_gr (b:=b) GG).1) | (go_at_call 196;refine (mw _ _ _ b n cap R (0-1) _ L _ (HR.out.keep0 (aa GW.out (aa GA.out (by first | exact aa GG (aj _) | exact aa GG ah | exact GG)))) (pa.keep0 (by first | exact aj _ | exact ah | exact ae _ _)) hn HC.out hL HFIT.out).mono ?_;rintro e wx ⟨rfl,fx,gx⟩;have RX:=(aX.of_gr (b:=b) (aa GW.out (aa GA.out (by first | exact aa GG (aj _) | exact aa GG ah | exact GG)))).trans gx;obtain ⟨x0,x1,x2,x3,x4,x5,x6,x7,x8,x9,x10,x11,x12,x13⟩:=CB.out wx ((aX.of_gr (b:=b) (by first | exact aa GG (aj _) | exact aa GG ah | exact GG)).trans gx).1))
   all_goals
    have FX:=ab fx;have RXX:=ab RX;clear fx gx RX;go_wp2;go_end0
    refine ⟨rfl,FX.out.congr (fun i _=>?_),RXX.out⟩;rw [HT.out];grind
  ·have hzd:decide (R k+d=0)=false:=decide_eq_false hz;rw [hzd];have HT:Hid (sT (R k+d)=1):=by show _=_;unfold sT;rw [if_neg hz]
   clear hz hzd;go_wp2;go_end0
   refine ⟨rfl,(HR.out.keep0 (aa GW.out G2.out)).congr (fun i _=>?_),aX.of_gr (aa GW.out G2.out)⟩;rw [HT.out,Rat.one_mul]
end Go.Proofs.YthblidglcppakaaGreatDoor
