/- Arrays of one-cell values that a call makes; labels. -/
import Derived.Test.YtidnhafllbckcaaGBase
namespace Go.Proofs.Ytidnhafllbckcaa
open Go.RowKit
set_option linter.unusedVariables false

/-- Block g is an array, all of it known, none of it frozen. -/
def RArr {α : Type} (f : α → Value) (t : TypeId) (w : World) (g : Nat) (xs : List α) : Prop := w.heap[g]? = some (.cells (xs.map f).toArray t (0, 0))

section
variable {α : Type} {f : α → Value} {t : TypeId} {w w' : World} {g : Nat} {xs : List α}
theorem RArr.lt (h : RArr f t w g xs) : g < w.heap.size := (Array.getElem?_eq_some_iff.1 h).1
theorem RArr.cell (h : RArr f t w g xs) (i : Nat) (hi : i < xs.length) : w.cell? ⟨g, i, none⟩ = some (f xs[i]) := by
  unfold RArr at h
  simp [World.cell?, h, hi]
theorem RArr.free (h : RArr f t w g xs) (i : Nat) : w.frozen? ⟨g, i, none⟩ = false := by
  unfold RArr at h
  simp [World.frozen?, h]
theorem RArr.set (h : RArr f t w g xs) (i : Nat) (x : α) (z : Value) (hz : z = f x) : RArr f t (w.setCell ⟨g, i, none⟩ z) g (xs.set i x) := by
  unfold RArr at h ⊢
  rw [heap_setCell_same w g i _ _ _ h, hz]
  simp [List.map_set]
theorem RArr.keep {row : Option Nat} (h : RArr f t w g xs) (hg : w.grownBy w' row) (hr : some g ≠ row) : RArr f t w' g xs := by
  have hl := h.lt
  unfold RArr at h ⊢
  rw [hg.block g hl hr, h]
theorem RArr.keep0 (h : RArr f t w g xs) (hg : w.grownBy w' none) : RArr f t w' g xs := h.keep hg (by simp)
end

abbrev iv (x : Int) : Value := .int .i64 x
abbrev bv (b : Bool) : Value := .bool b
abbrev IArr (w : World) (g : Nat) (xs : List Int) : Prop := RArr iv 3 w g xs
abbrev BArr (w : World) (g : Nat) (xs : List Bool) : Prop := RArr bv 4 w g xs

/-- 'make([]T, n)', T of one cell. -/
theorem wpList_make_g {P : Program} {α : Type} (f : α → Value) (e : TypeId) (z0 : α) (by_ : Nat) (w : World) {ops : Array Oper} {rest : List Oper} {o : Oper} {a : Act} {Q : Exit → Act → World → Prop}
    (hg : o.guard = none) (l c : Operand) (t : TypeId) (hop : o.op = Op.makeSlice t l c)
    (h1 : P.underlying t = some (.slice e)) (hinfo : (P.info? e).map (fun i => (i.zero, i.size, i.bytes)) = some (some (f z0), 1, by_)) (hcell : (f z0).cells = #[f z0])
    (kl kc : IntKind) (L C : Int) (n : Nat) (hl : a.eval l = .int kl L) (hc : a.eval c = .int kc C) (hL : L = (n : Int)) (hC : C = (n : Int)) (b2 : n ≤ 1073741824) (hby : by_ ≤ 8)
    (hK : ∀ w', RArr f e w' w.heap.size (List.replicate n z0) → w.grownBy w' none → wpList P ops Q rest (a.put o.dst (.slice (some ⟨w.heap.size, 0, none⟩) n n)) w') :
    wpList P ops Q (o :: rest) a w := by
  obtain ⟨i, hi, hz0, hz1, hz2⟩ := info_parts hinfo
  refine wpList_make_full w hg l c t hop w.heap.size e i (f z0) 1 h1 hi hz0 hz1 kl kc L C n hl hc hL hC (by rw [hz2]; have := Nat.mul_le_mul hby b2; omega) (by unfold maxLen; omega) (Nat.le_refl _) ?_
  intro w' hown hgr
  refine hK w' ?_ hgr
  obtain ⟨_, h⟩ := hown
  rcases h with ⟨h, _⟩ | ⟨g, cap, cur, h, _, hh, _, _, hsz, ht⟩
  · simp at h
  · simp only [Value.slice.injEq, Option.some.injEq, Addr.mk.injEq, and_true, true_and] at h
    obtain ⟨rfl, rfl⟩ := h
    unfold RArr
    rw [hh]
    have hm : madeCells (f z0).cells (n * 1) = ((List.replicate n z0).map f).toArray := by
      apply Array.ext
      · simp [madeCells]
      · intro i h1 h2
        simp [madeCells, hcell, Nat.mod_one]
    have : cur = ((List.replicate n z0).map f).toArray := by
      rw [← hm]
      apply Array.ext'
      rw [← ht, List.take_of_length_le (by simp [hsz])]
    rw [this]

theorem Try.infoInt : (Try.prog.info? 3).map (fun i => (i.zero, i.size, i.bytes)) = some (some (iv 0), 1, 8) := by kernel_rfl
theorem Try.infoBool : (Try.prog.info? 4).map (fun i => (i.zero, i.size, i.bytes)) = some (some (bv false), 1, 1) := by kernel_rfl

end Go.Proofs.Ytidnhafllbckcaa
