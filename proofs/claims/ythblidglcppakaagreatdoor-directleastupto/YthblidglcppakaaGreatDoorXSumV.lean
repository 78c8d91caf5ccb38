/- Contracts that the proof leans on. -/
import Derived.Test.YthblidglcppakaaGreatDoorXCBf
import Derived.Test.YthblidglcppakaaGreatDoorXCBd
import Derived.Test.YthblidglcppakaaGreatDoorXCNa
namespace Go.Proofs.YthblidglcppakaaGreatDoor
open Go.RowKit
set_option linter.unusedVariables false
set_option linter.unusedSimpArgs false
set_option maxHeartbeats 8000000
set_option maxRecDepth 10000
def RV (w:World) (b:Nat) (q:Rat) (L:Nat):Prop:=RQ w b q L∨(q=0/\qv w b L)
theorem RV.keep0 {w w':World} {b L:Nat} {q:Rat} (h:RV w b q L) (hg:w.grownBy w' none):RV w' b q L:=by
 rcases h with h | ⟨e,h⟩
 ·exact .inl (h.keep0 hg)
 ·exact .inr ⟨e,h.keep0 hg⟩
theorem RV.mono {w:World} {b L L':Nat} {q:Rat} (h:RV w b q L) (hl:L<=L'):RV w b q L':=by
 rcases h with h | ⟨e,h⟩
 ·exact .inl (h.mono hl)
 ·exact .inr ⟨e,h.1.mono hl,h.2.mono hl⟩
theorem RV.x {w:World} {b L:Nat} {q:Rat} (h:RV w b q L) (hL:2<=L):RX w b q L:=by
 rcases h with h | ⟨rfl,h⟩
 ·exact h.x
 ·exact h.x hL
theorem RV.ints {w:World} {b L:Nat} {q:Rat} (h:RV w b q L):∃ z y:Int,aB w b 0 z L/\aB w b 2 y L:=by
 rcases h with h | ⟨rfl,h⟩
 ·exact ⟨_,_,h.1,h.2.1⟩
 ·exact ⟨_,_,h.1,h.2⟩
theorem RV.lt {w:World} {b L:Nat} {q:Rat} (h:RV w b q L):b<w.heap.size:=by
 obtain ⟨z,y,⟨n1,v1,b1,_⟩,_⟩:=h.ints;exact b1.lt
def nT (w:World) (b:Nat):Prop:=∀ o,4<=o->w.cell? ⟨b,o,none⟩=none
theorem Ws.slice {w:World} {v:Value} {xs:List Nat} (h:Ws w v xs):∃ ao l c,v=.slice ao l c:=by
 rcases h.sh with ⟨h1,_⟩ | ⟨b,off,cap,h1,_⟩
 ·exact ⟨_,_,_,h1⟩
 ·exact ⟨_,_,_,h1⟩
theorem RV.noW {w:World} {b L:Nat} {q:Rat} (h:RV w b q L) (hb:nT w b):bO w b:=by
 obtain ⟨z,y,⟨n1,v1,b1,m1,_⟩,⟨n2,v2,b2,m2,_⟩⟩:=h.ints;obtain ⟨x1,w1,_⟩:=m1.ex;obtain ⟨x2,w2,_⟩:=m2.ex;obtain ⟨ao,l,c,rfl⟩:=w1.slice;obtain ⟨ao2,l2,c2,rfl⟩:=w2.slice;intro i x e;by_cases h4:4<=i
 ·rw [hb i h4] at e;cases e
 ·have:i=0∨i=0+1∨i=2∨i=2+1:=by omega
  rcases this with e1 | e1 | e1 | e1<;>rw [e1] at e
  ·rw [b1.c0] at e;cases e
  ·rw [b1.c1] at e;cases e
  ·rw [b2.c0] at e;cases e
  ·rw [b2.c1] at e;cases e
theorem Ws.keepV {w w':World} {v:Value} {xs:List Nat} {k:Nat} (h:Ws w v xs) (hg:w.grownBy w' (some k)) (hn:bO w k):Ws w' v xs:=by
 refine ⟨h.sm,?_⟩;rcases h.sh with h1 | ⟨b,off,cap,rfl,hb,hl,hm,hc⟩
 ·exact .inl h1
 ·refine .inr ⟨b,off,cap,rfl,Nat.lt_of_lt_of_le hb hg.size,hl,hm,fun i hi=>?_⟩;have hne:b≠k:=fun e=>hn (off+i) xs[i] (by rw [<- e];exact hc i hi)
  have e:w'.heap[b]? = w.heap[b]?:=hg.block b hb (fun e=>hne (Option.some.inj e));exact (World.cell?_of_block (a:=⟨b,off+i,none⟩) e).trans (hc i hi)
theorem aB.keepV {w w':World} {b off L:Nat} {z:Int} {k:Nat} (h:aB w b off z L) (hg:w.grownBy w' (some k)) (hn:bO w k) (hne:b≠k):aB w' b off z L:=by
 obtain ⟨neg,v,h1,⟨xs,h2,h3⟩,h4⟩:=h;have e:w'.heap[b]? = w.heap[b]?:=hg.block b h1.lt (fun e=>hne (Option.some.inj e));exact ⟨neg,v,⟨(World.cell?_of_block (a:=⟨b,off,none⟩) e).trans h1.c0,(World.cell?_of_block (a:=⟨b,off+1,none⟩) e).trans h1.c1,(World.frozen?_of_block (a:=⟨b,off,none⟩) e).trans h1.f0,(World.frozen?_of_block (a:=⟨b,off+1,none⟩) e).trans h1.f1⟩,⟨xs,h2.keepV hg hn,h3⟩,h4⟩
theorem RV.keepV {w w':World} {b L:Nat} {q:Rat} {k:Nat} (h:RV w b q L) (hg:w.grownBy w' (some k)) (hn:bO w k) (hne:b≠k):RV w' b q L:=by
 rcases h with h | ⟨e,h⟩
 ·exact .inl ⟨h.1.keepV hg hn hne,h.2.1.keepV hg hn hne,h.2.2⟩
 ·exact .inr ⟨e,h.1.keepV hg hn hne,h.2.keepV hg hn hne⟩
theorem nT.keep {w w':World} {b:Nat} {r:Option Nat} (h:nT w b) (hb:b<w.heap.size) (hg:w.grownBy w' r) (hr:some b≠r):nT w' b:=fun o h4=>by
 rw [World.cell?_of_block (a:=⟨b,o,none⟩) (hg.block b hb hr)];exact h o h4
def qu (w:World) (b:Nat):Prop:=w.heap[b]? = some (Obj.cells #[.bool false,.slice none 0 0,.bool false,.slice none 0 0] 47 (0,0))
theorem qu.keep {w w':World} {b:Nat} {r:Option Nat} (h:qu w b) (hg:w.grownBy w' r) (hr:some b≠r):qu w' b:=by
 unfold qu at h ⊢;rw [hg.block b (Array.getElem?_eq_some_iff.1 h).1 hr];exact h
theorem qu.nil {w:World} {b:Nat} (h:qu w b) (L:Nat):qv w b L/\nT w b:=by
 unfold qu at h;have b1:gC w b 0 false (.slice none 0 0):=by constructor<;>simp [World.cell?,World.frozen?,h]
 have b2:gC w b 2 false (.slice none 0 0):=by constructor<;>simp [World.cell?,World.frozen?,h]
 have m:aU w (.slice none 0 0) 0 L:=⟨[],Ws.nil w,rfl,rfl,Nat.zero_le _⟩;refine ⟨⟨⟨false,_,b1,m,rfl,by simp [az]⟩,⟨false,_,b2,m,rfl,by simp [az]⟩⟩,fun o ho=>?_⟩;simp only [World.cell?,h];simp;omega
theorem th (bz bY:Nat) (p q:Rat) (L M:Nat) (w:World) (hX:RV w bz p L) (hY:RX w bY q M) (h2:2<=L) (hL:L+M<=3900000000000) :
  Calls Tryz.prog 9 #[.pointer (some ⟨bz,0,none⟩),.pointer (some ⟨bz,0,none⟩),.pointer (some ⟨bY,0,none⟩)] w fun e w'=>e=.returned (.pointer (some ⟨bz,0,none⟩))/\bB w w' bz/\RQ w' bz (p+q) (L+M+3):=by
 obtain ⟨z,y,⟨n1,v1,b1,_⟩,⟨n2,v2,b2,_⟩⟩:=hX.ints;have hx:=hX.x h2;refine (rC bz bz bY n1 n2 v1 v2 _ _ _ _ L M w b1 b2 hx.1 hY.1 hx.2 hY.2 p.den_pos q.den_pos hL).mono ?_;rintro e w' ⟨rfl,h1,h3⟩;exact ⟨rfl,h1,bQ.q (Nat.mul_pos p.den_pos q.den_pos) (AV p q) h3⟩
end Go.Proofs.YthblidglcppakaaGreatDoor
