/- Contracts that the proof leans on. -/
import Derived.Test.YtcoeancbjafooaaGreatDoorXCBf
import Derived.Test.YtcoeancbjafooaaGreatDoorXCBd
import Derived.Test.YtcoeancbjafooaaGreatDoorXCNa
namespace Go.Proofs.YtcoeancbjafooaaGreatDoor
open Go.RowKit
set_option linter.unusedVariables false
set_option linter.unusedSimpArgs false
set_option maxHeartbeats 8000000
set_option maxRecDepth 10000
def RV (w:World) (b:Nat) (q:Rat) (L:Nat):Prop:=RQ w b q L∨(q=0/\mu w b L)
theorem RV.keep0 {w w':World} {b L:Nat} {q:Rat} (h:RV w b q L) (hg:w.grownBy w' none):RV w' b q L:=by
 rcases h with h | ⟨e,h⟩
 ·exact .inl (h.keep0 hg)
 ·exact .inr ⟨e,h.keep0 hg⟩
theorem RV.mono {w:World} {b L L':Nat} {q:Rat} (h:RV w b q L) (hl:L<=L'):RV w b q L':=by
 rcases h with h | ⟨e,h⟩
 ·exact .inl (h.mono hl)
 ·exact .inr ⟨e,h.1.mono hl,h.2.mono hl⟩
theorem RV.x {w:World} {b L:Nat} {q:Rat} (h:RV w b q L) (hL:2<=L):RX w b q L:=by
 rcases h with h | ⟨rfl,h⟩
 ·exact h.x
 ·exact h.x hL
theorem RV.ints {w:World} {b L:Nat} {q:Rat} (h:RV w b q L):∃ z y:Int,aB w b 0 z L/\aB w b 2 y L:=by
 rcases h with h | ⟨rfl,h⟩
 ·exact ⟨_,_,h.1,h.2.1⟩
 ·exact ⟨_,_,h.1,h.2⟩
theorem RV.lt {w:World} {b L:Nat} {q:Rat} (h:RV w b q L):b<w.heap.size:=by
 obtain ⟨z,y,⟨n1,v1,b1,_⟩,_⟩:=h.ints;exact b1.lt
def zx (w:World) (b:Nat):Prop:=∀ o,4<=o->w.cell? ⟨b,o,none⟩=none
theorem Ws.slice {w:World} {v:Value} {xs:List Nat} (h:Ws w v xs):∃ ao l c,v=.slice ao l c:=by
 rcases h.sh with ⟨h1,_⟩ | ⟨b,off,cap,h1,_⟩
 ·exact ⟨_,_,_,h1⟩
 ·exact ⟨_,_,_,h1⟩
theorem RV.noW {w:World} {b L:Nat} {q:Rat} (h:RV w b q L) (hb:zx w b):bO w b:=by
 obtain ⟨z,y,⟨n1,v1,b1,m1,_⟩,⟨n2,v2,b2,m2,_⟩⟩:=h.ints;obtain ⟨x1,w1,_⟩:=m1.ex;obtain ⟨x2,w2,_⟩:=m2.ex;obtain ⟨ao,l,c,rfl⟩:=w1.slice;obtain ⟨ao2,l2,c2,rfl⟩:=w2.slice;intro i x e;by_cases h4:4<=i
 ·rw [hb i h4] at e;cases e
 ·have:i=0∨i=0+1∨i=2∨i=2+1:=by omega
  rcases this with e1 | e1 | e1 | e1<;>rw [e1] at e
  ·rw [b1.c0] at e;cases e
  ·rw [b1.c1] at e;cases e
  ·rw [b2.c0] at e;cases e
  ·rw [b2.c1] at e;cases e
theorem Ws.keepV {w w':World} {v:Value} {xs:List Nat} {k:Nat} (h:Ws w v xs) (hg:w.grownBy w' (some k)) (hn:bO w k):Ws w' v xs:=by
 refine ⟨h.sm,?_⟩;rcases h.sh with h1 | ⟨b,off,cap,rfl,hb,hl,hm,hc⟩
 ·exact .inl h1
 ·refine .inr ⟨b,off,cap,rfl,Nat.lt_of_lt_of_le hb hg.size,hl,hm,fun i hi=>?_⟩;have hne:b≠k:=fun e=>hn (off+i) xs[i] (by rw [<- e];exact hc i hi)
  have e:w'.heap[b]? = w.heap[b]?:=hg.block b hb (fun e=>hne (Option.some.inj e));exact (World.cell?_of_block (a:=⟨b,off+i,none⟩) e).trans (hc i hi)
theorem aB.keepV {w w':World} {b off L:Nat} {z:Int} {k:Nat} (h:aB w b off z L) (hg:w.grownBy w' (some k)) (hn:bO w k) (hne:b≠k):aB w' b off z L:=by
 obtain ⟨neg,v,h1,⟨xs,h2,h3⟩,h4⟩:=h;have e:w'.heap[b]? = w.heap[b]?:=hg.block b h1.lt (fun e=>hne (Option.some.inj e));exact ⟨neg,v,⟨(World.cell?_of_block (a:=⟨b,off,none⟩) e).trans h1.c0,(World.cell?_of_block (a:=⟨b,off+1,none⟩) e).trans h1.c1,(World.frozen?_of_block (a:=⟨b,off,none⟩) e).trans h1.f0,(World.frozen?_of_block (a:=⟨b,off+1,none⟩) e).trans h1.f1⟩,⟨xs,h2.keepV hg hn,h3⟩,h4⟩
theorem RV.keepV {w w':World} {b L:Nat} {q:Rat} {k:Nat} (h:RV w b q L) (hg:w.grownBy w' (some k)) (hn:bO w k) (hne:b≠k):RV w' b q L:=by
 rcases h with h | ⟨e,h⟩
 ·exact .inl ⟨h.1.keepV hg hn hne,h.2.1.keepV hg hn hne,h.2.2⟩
 ·exact .inr ⟨e,h.1.keepV hg hn hne,h.2.keepV hg hn hne⟩
def pv:Option Nat->Value
 | none=>.pointer none
 | some b=>.pointer (some ⟨b,0,none⟩)
theorem Tryz.infoPR:(Tryz.prog.info? 37).map (fun i=>(i.zero,i.size,i.bytes))=some (some (pv none),1,8):=by kernel_rfl
structure rG (w:World) (base g n:Nat) (B:Nat->Nat) (Q:Nat->Rat) (L:Nat->Nat):Prop where
 arr:fY pv 37 w g ((List.range n).map fun k=>some (B k))
 lo:base<=g
 num:∀ k,k<n->RV w (B k) (Q k) (L k)/\zx w (B k)/\base<=B k/\B k≠g
 inj:∀ k j,k<n->j<n->B k=B j->k=j
theorem zx.keep {w w':World} {b:Nat} {r:Option Nat} (h:zx w b) (hb:b<w.heap.size) (hg:w.grownBy w' r) (hr:some b≠r):zx w' b:=fun o h4=>by
 rw [World.cell?_of_block (a:=⟨b,o,none⟩) (hg.block b hb hr)];exact h o h4
theorem rG.keep0 {w w':World} {base g n:Nat} {B:Nat->Nat} {Q:Nat->Rat} {L:Nat->Nat} (h:rG w base g n B Q L) (hg:w.grownBy w' none):rG w' base g n B Q L :=
 ⟨h.arr.keep0 hg,h.lo,fun k hk=>⟨(h.num k hk).1.keep0 hg,(h.num k hk).2.1.keep (h.num k hk).1.lt hg (by simp),(h.num k hk).2.2⟩,h.inj⟩
theorem rG.congr {w:World} {base g n:Nat} {B:Nat->Nat} {Q Q':Nat->Rat} {L L':Nat->Nat} (h:rG w base g n B Q L) (hq:∀ k,k<n->Q' k=Q k) (hl:∀ k,k<n->L k<=L' k):rG w base g n B Q' L' :=
 ⟨h.arr,h.lo,fun k hk=>⟨by rw [hq k hk];exact (h.num k hk).1.mono (hl k hk),(h.num k hk).2⟩,h.inj⟩
theorem rG.cell {w:World} {base g n:Nat} {B:Nat->Nat} {Q:Nat->Rat} {L:Nat->Nat} (h:rG w base g n B Q L) {k:Nat} (hk:k<n):w.cell? ⟨g,k,none⟩=some (.pointer (some ⟨B k,0,none⟩)):=by
 have:=h.arr.cell k (by simpa using hk);simpa [pv] using this
theorem rG.put {w w':World} {base g n:Nat} {B:Nat->Nat} {Q Q':Nat->Rat} {L L':Nat->Nat} {k:Nat} (h:rG w base g n B Q L) (hk:k<n) (hp:bK w w' (B k)) (hq:RQ w' (B k) (Q' k) (L' k)) (hQ2:∀ j,j≠k->Q' j=Q j/\L' j=L j):rG w' base g n B Q' L':=by
 obtain ⟨h1,h2,h3,h4⟩:=h.num k hk;have hn:=h1.noW h2;refine ⟨h.arr.keep hp.gr (fun e=>h4 (Option.some.inj e).symm),h.lo,fun j hj=>?_,h.inj⟩;obtain ⟨j1,j2,j3,j4⟩:=h.num j hj;by_cases e:j=k
 ·subst e;refine ⟨.inl hq,fun o ho=>?_,j3,j4⟩;rw [hp.rest h1.lt o ho];exact j2 o ho
 ·have hne:B j≠B k:=fun e2=>e (h.inj j k hj hk e2)
  refine ⟨by rw [(hQ2 j e).1,(hQ2 j e).2];exact j1.keepV hp.gr hn hne,j2.keep j1.lt hp.gr (fun e2=>hne (Option.some.inj e2)),j3,j4⟩
def qZ (w:World) (b:Nat):Prop:=w.heap[b]? = some (Obj.cells #[.bool false,.slice none 0 0,.bool false,.slice none 0 0] 53 (0,0))
theorem qZ.keep {w w':World} {b:Nat} {r:Option Nat} (h:qZ w b) (hg:w.grownBy w' r) (hr:some b≠r):qZ w' b:=by
 unfold qZ at h ⊢;rw [hg.block b (Array.getElem?_eq_some_iff.1 h).1 hr];exact h
theorem qZ.nil {w:World} {b:Nat} (h:qZ w b) (L:Nat):mu w b L/\zx w b:=by
 unfold qZ at h;have b1:gk w b 0 false (.slice none 0 0):=by constructor<;>simp [World.cell?,World.frozen?,h]
 have b2:gk w b 2 false (.slice none 0 0):=by constructor<;>simp [World.cell?,World.frozen?,h]
 have m:aU w (.slice none 0 0) 0 L:=⟨[],Ws.nil w,rfl,rfl,Nat.zero_le _⟩;refine ⟨⟨⟨false,_,b1,m,rfl,by simp [ay]⟩,⟨false,_,b2,m,rfl,by simp [ay]⟩⟩,fun o ho=>?_⟩;simp only [World.cell?,h];simp;omega
structure q9 (w:World) (base g n i:Nat) (B:Nat->Nat):Prop where
 arr:fY pv 37 w g ((List.range n).map fun k=>if k<i then some (B k) else none)
 lo:base<=g
 num:∀ k,k<i->qZ w (B k)/\base<=B k/\B k≠g
 inj:∀ k j,k<i->j<i->B k=B j->k=j
theorem q9.at {w:World} {base g n:Nat} {B:Nat->Nat} (h:q9 w base g n n B) (L:Nat):rG w base g n B (fun _=>0) (fun _=>L):=by
 refine ⟨?_,h.lo,fun k hk=>?_,h.inj⟩
 ·have e:((List.range n).map fun k=>if k<n then some (B k) else none)=(List.range n).map fun k=>some (B k):=by
   apply List.map_congr_left;intro k hk;rw [if_pos (List.mem_range.1 hk)]
  rw [<- e];exact h.arr
 ·obtain ⟨h1,h2,h3⟩:=h.num k hk;obtain ⟨n1,n2⟩:=h1.nil L;exact ⟨.inr ⟨rfl,n1⟩,n2,h2,h3⟩
theorem q9.step {w w':World} {base g n i:Nat} {B:Nat->Nat} (h:q9 w base g n i B) (hi:i<n) (hb:base<=w.heap.size) (hg:g<w.heap.size) (hl:∀ k,k<i->B k<w.heap.size)
  (hw:w'=(w.alloc (Obj.cells #[.bool false,.slice none 0 0,.bool false,.slice none 0 0] 53)).setCell ⟨g,i,none⟩ (.pointer (some ⟨w.heap.size,0,none⟩))) :
  q9 w' base g n (i+1) (fun k=>if k=i then w.heap.size else B k):=by
 have g1:w.grownBy (w.alloc (Obj.cells #[.bool false,.slice none 0 0,.bool false,.slice none 0 0] 53)) none:=ag (ae _ _) _;have g2:(w.alloc (Obj.cells #[.bool false,.slice none 0 0,.bool false,.slice none 0 0] 53)).grownBy w' (some g):=by
  rw [hw];exact ⟨rfl,rfl,rfl,by simp,fun k _ hr=>heap_setCell_other _ _ _ _ (fun e=>hr (by rw [e]))⟩
 have hnew:qZ w' w.heap.size:=qZ.keep (heap_alloc_new w _) g2 (fun e=>by have:=Option.some.inj e;omega);refine ⟨?_,h.lo,fun k hk=>?_,fun k j hk hj e=>?_⟩
 ·have:=(h.arr.keep0 g1).set i (some w.heap.size) (.pointer (some ⟨w.heap.size,0,none⟩)) rfl;rw [<- hw] at this;have e:((List.range n).map fun k=>if k<i then some (B k) else none).set i (some w.heap.size)=(List.range n).map fun k=>if k<i+1 then some (if k=i then w.heap.size else B k) else none:=by
   apply List.ext_getElem
   ·simp
   ·intro k h1 h2;rw [List.getElem_set];by_cases e:i=k
    ·subst e;simp
    ·have e2:¬ k=i:=fun h=>e h.symm
     by_cases e3:k<i
     ·have:k<i+1:=by omega
      simp [e,e2,e3,this]
     ·have:¬ k<i+1:=by omega
      simp [e,e3,this]
  rw [<- e];exact this
 ·by_cases e:k=i
  ·rw [if_pos e];exact ⟨hnew,hb,by omega⟩
  ·obtain ⟨h1,h2,h3⟩:=h.num k (by omega);rw [if_neg e];exact ⟨(h1.keep g1 (by simp)).keep g2 (fun e=>h3 (Option.some.inj e)),h2,h3⟩
 ·by_cases e1:k=i<;>by_cases e2:j=i
  ·omega
  ·simp only [e1,e2,if_true,if_false] at e;have:=hl j (by omega);omega
  ·simp only [e1,e2,if_true,if_false] at e;have:=hl k (by omega);omega
  ·simp only [e1,e2,if_false] at e;exact h.inj k j (by omega) (by omega) e
theorem ud (bz bY:Nat) (p q:Rat) (L M:Nat) (w:World) (hX:RV w bz p L) (hY:RX w bY q M) (h2:2<=L) (hL:L+M<=390000000) :
  Calls Tryz.prog 17 #[.pointer (some ⟨bz,0,none⟩),.pointer (some ⟨bz,0,none⟩),.pointer (some ⟨bY,0,none⟩)] w fun e w'=>e=.returned (.pointer (some ⟨bz,0,none⟩))/\bK w w' bz/\RQ w' bz (p+q) (L+M+3):=by
 obtain ⟨z,y,⟨n1,v1,b1,_⟩,⟨n2,v2,b2,_⟩⟩:=hX.ints;have hx:=hX.x h2;refine (AP bz bz bY n1 n2 v1 v2 _ _ _ _ L M w b1 b2 hx.1 hY.1 hx.2 hY.2 p.den_pos q.den_pos hL).mono ?_;rintro e w' ⟨rfl,h1,h3⟩;exact ⟨rfl,h1,bS.q (Nat.mul_pos p.den_pos q.den_pos) (add_mk p q) h3⟩
def cr (w w':World) (n:Nat) (B:Nat->Nat):Prop:=w.heap.size<=w'.heap.size/\∀ x,x<w.heap.size->(∀ k,k<n->x≠B k)->w'.heap[x]? = w.heap[x]?
theorem cr.refl (w:World) (n:Nat) (B:Nat->Nat):cr w w n B:=⟨Nat.le_refl _,fun _ _ _=>rfl⟩
theorem cr.gr {w w1 w2:World} {n:Nat} {B:Nat->Nat} (h:cr w w1 n B) (g:w1.grownBy w2 none):cr w w2 n B :=
 ⟨Nat.le_trans h.1 g.size,fun x hx hn=>by rw [g.block x (Nat.lt_of_lt_of_le hx h.1) (by simp),h.2 x hx hn]⟩
theorem cr.put {w w1 w2:World} {n k:Nat} {B:Nat->Nat} (h:cr w w1 n B) (hk:k<n) (g:bK w1 w2 (B k)):cr w w2 n B :=
 ⟨Nat.le_trans h.1 g.gr.size,fun x hx hn=>by rw [g.gr.block x (Nat.lt_of_lt_of_le hx h.1) (fun e=>hn k hk (Option.some.inj e)),h.2 x hx hn]⟩
theorem cr.cell {w w':World} {n:Nat} {B:Nat->Nat} (h:cr w w' n B) {a:Addr} {v:Value} (hc:w.cell? a=some v) (hn:∀ k,k<n->a.block≠B k):w'.cell? a=some v:=by
 rw [World.cell?_of_block (h.2 a.block (dG hc) hn)];exact hc
end Go.Proofs.YtcoeancbjafooaaGreatDoor
