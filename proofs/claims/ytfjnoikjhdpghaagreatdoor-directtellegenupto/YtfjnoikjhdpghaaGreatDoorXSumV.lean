/- Contracts that the proof leans on. -/
import Derived.Test.YtfjnoikjhdpghaaGreatDoorXCBf
import Derived.Test.YtfjnoikjhdpghaaGreatDoorXCBd
import Derived.Test.YtfjnoikjhdpghaaGreatDoorXCNa
namespace Go.Proofs.YtfjnoikjhdpghaaGreatDoor
open Go.RowKit
set_option linter.unusedVariables false
set_option linter.unusedSimpArgs false
set_option maxHeartbeats 8000000
set_option maxRecDepth 10000
def RV (w:World) (b:Nat) (q:Rat) (L:Nat):Prop:=RQ w b q L∨(q=0/\qg w b L)
theorem RV.keep0 {w w':World} {b L:Nat} {q:Rat} (h:RV w b q L) (hg:w.grownBy w' none):RV w' b q L:=by
 rcases h with h | ⟨e,h⟩
 ·exact .inl (h.keep0 hg)
 ·exact .inr ⟨e,h.keep0 hg⟩
theorem RV.x {w:World} {b L:Nat} {q:Rat} (h:RV w b q L) (hL:2<=L):RX w b q L:=by
 rcases h with h | ⟨rfl,h⟩
 ·exact h.x
 ·exact h.x hL
theorem RV.ints {w:World} {b L:Nat} {q:Rat} (h:RV w b q L):∃ z y:Int,aA w b 0 z L/\aA w b 2 y L:=by
 rcases h with h | ⟨rfl,h⟩
 ·exact ⟨_,_,h.1,h.2.1⟩
 ·exact ⟨_,_,h.1,h.2⟩
def VBox (w:World) (b:Nat):Prop:=∀ o,4<=o->w.cell? ⟨b,o,none⟩=none
def NewR (w:World) (b:Nat):Prop:=w.heap[b]? = some (Obj.cells #[.bool false,.slice none 0 0,.bool false,.slice none 0 0] 53 (0,0))
theorem NewR.nil {w:World} {b:Nat} (h:NewR w b) (L:Nat):qg w b L/\VBox w b:=by
 unfold NewR at h;have b1:fW w b 0 false (.slice none 0 0):=by constructor<;>simp [World.cell?,World.frozen?,h]
 have b2:fW w b 2 false (.slice none 0 0):=by constructor<;>simp [World.cell?,World.frozen?,h]
 have m:aT w (.slice none 0 0) 0 L:=⟨[],Ws.nil w,rfl,rfl,Nat.zero_le _⟩;refine ⟨⟨⟨false,_,b1,m,rfl,by simp [az]⟩,⟨false,_,b2,m,rfl,by simp [az]⟩⟩,fun o ho=>?_⟩;simp only [World.cell?,h];simp;omega
theorem oD (bz bY:Nat) (p q:Rat) (L M:Nat) (w:World) (hX:RV w bz p L) (hY:RX w bY q M) (h2:2<=L) (hL:L+M<=3900000000000) :
  Calls Tryz.prog 14 #[.pointer (some ⟨bz,0,none⟩),.pointer (some ⟨bz,0,none⟩),.pointer (some ⟨bY,0,none⟩)] w fun e w'=>e=.returned (.pointer (some ⟨bz,0,none⟩))/\bG w w' bz/\RQ w' bz (p+q) (L+M+3):=by
 obtain ⟨z,y,⟨n1,v1,b1,_⟩,⟨n2,v2,b2,_⟩⟩:=hX.ints;have hx:=hX.x h2;refine (zJ bz bz bY n1 n2 v1 v2 _ _ _ _ L M w b1 b2 hx.1 hY.1 hx.2 hY.2 p.den_pos q.den_pos hL).mono ?_;rintro e w' ⟨rfl,h1,h3⟩;exact ⟨rfl,h1,bU.q (Nat.mul_pos p.den_pos q.den_pos) (add_mk p q) h3⟩
end Go.Proofs.YtfjnoikjhdpghaaGreatDoor
