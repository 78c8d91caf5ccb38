/- Slices of words in memory that a call made itself: they are written to and appended to. -/
import Derived.Test.YtfhamfgcjdhmdaaDoorFTrim
import Derived.Laws.AppendOwn
namespace Go.Proofs.YtfhamfgcjdhmdaaDoor
open Go.RowKit

/-- v holds xs in memory from block 'base' on, none of it frozen, with room behind it or not. -/
def Own (w : World) (base : Nat) (v : Value) (xs : List Nat) : Prop := w.ownsRow base 79 1 v xs.length (wordCells xs).toList

theorem own_nil (w : World) (base : Nat) : Own w base (.slice none 0 0) [] := World.ownsRow_nil _ _ _ _

theorem take_cells {cur : Array Value} {xs : List Nat} (h : cur.toList.take (xs.length * 1) = (wordCells xs).toList) (i : Nat) (hi : i < xs.length) : cur[i]? = some (.int .u32 (xs[i] : Nat)) := by
  have h2 : (cur.toList.take (xs.length * 1))[i]? = (wordCells xs).toList[i]? := by rw [h]
  rw [List.getElem?_take, if_pos (by omega)] at h2
  simpa [wordCells, hi] using h2

theorem Own.ws {w : World} {base : Nat} {v : Value} {xs : List Nat} (h : Own w base v xs) (hs : Sm xs) : Ws w v xs := by
  refine ⟨hs, ?_⟩
  rcases h.2 with ⟨rfl, h0⟩ | ⟨g, cap, cur, rfl, hb, hh, h1, h2, h3, h4⟩
  · exact .inl ⟨rfl, List.eq_nil_of_length_eq_zero h0⟩
  · refine .inr ⟨g, 0, cap, rfl, (Array.getElem?_eq_some_iff.1 hh).1, h1, h2, fun i hi => ?_⟩
    rw [Nat.zero_add]
    simp only [World.cell?, hh]
    exact take_cells h4 i hi

theorem Own.fresh {w : World} {base : Nat} {v : Value} {xs : List Nat} (h : Own w base v xs) : ∀ k, blockOf v = some k → base ≤ k ∧ k < w.heap.size := by
  intro k hk
  rcases h.2 with ⟨rfl, h0⟩ | ⟨g, cap, cur, rfl, hb, hh, h1, h2, h3, h4⟩
  · simp [blockOf] at hk
  · simp [blockOf] at hk
    subst hk
    exact ⟨hb, (Array.getElem?_eq_some_iff.1 hh).1⟩

/-- Its shape, and what may be done at its places. -/
theorem Own.open {w : World} {base : Nat} {v : Value} {xs : List Nat} (h : Own w base v xs) : ∃ ao cap, v = .slice ao xs.length cap ∧ xs.length ≤ cap ∧ cap ≤ maxLen ∧
    (ao = none ∨ ∃ g, ao = some ⟨g, 0, none⟩ ∧ base ≤ g ∧ g < w.heap.size) := by
  rcases h.2 with ⟨rfl, h0⟩ | ⟨g, cap, cur, rfl, hb, hh, h1, h2, h3, h4⟩
  · exact ⟨none, 0, by rw [h0], by omega, by unfold maxLen; omega, .inl rfl⟩
  · exact ⟨_, cap, rfl, h1, h2, .inr ⟨g, rfl, hb, (Array.getElem?_eq_some_iff.1 hh).1⟩⟩

theorem Own.at {w : World} {base g cap : Nat} {xs : List Nat} (h : Own w base (.slice (some ⟨g, 0, none⟩) xs.length cap) xs) (i : Nat) (hi : i < xs.length) :
    w.cell? ⟨g, i, none⟩ = some (.int .u32 (xs[i] : Nat)) ∧ w.frozen? ⟨g, i, none⟩ = false ∧
      ∀ (x : Nat) (z : Int), z = (x : Int) → Own (w.setCell ⟨g, i, none⟩ (.int .u32 z)) base (.slice (some ⟨g, 0, none⟩) xs.length cap) (xs.set i x) := by
  rcases h.2 with ⟨h0, _⟩ | ⟨g', cap', cur, h0, hb, hh, h1, h2, h3, h4⟩
  · simp at h0
  · simp only [Value.slice.injEq, Option.some.injEq, Addr.mk.injEq, and_true, true_and] at h0
    obtain ⟨rfl, rfl⟩ := h0
    refine ⟨?_, ?_, ?_⟩
    · simp only [World.cell?, hh]
      exact take_cells h4 i hi
    · simp [World.frozen?, hh]
    · intro x z hz
      refine ⟨by simp [wordCells], .inr ⟨g, cap, cur.setIfInBounds i (.int .u32 z), by simp, hb, ?_, by simpa using h1, h2, by simpa using h3, ?_⟩⟩
      · rw [heap_setCell_same w g i _ _ _ hh]
      · subst hz
        rw [Array.toList_setIfInBounds, List.length_set, List.take_set, h4]
        simp [wordCells, List.map_set]

theorem Own.drewN {w : World} {base : Nat} {v : Value} {xs : List Nat} (h : Own w base v xs) (n : Nat) : Own (w.drewN n) base v xs := h

theorem Own.keep {w w' : World} {base : Nat} {v : Value} {xs : List Nat} {row : Option Nat} (h : Own w base v xs) (hg : w.grownBy w' row) (hne : ∀ k, row = some k → blockOf v ≠ some k) : Own w' base v xs := by
  refine World.ownsRow.kept h hg ?_
  cases row with
  | none => cases hv : v.ownBlock <;> simp
  | some k =>
    right
    intro e
    refine hne k rfl ?_
    rw [← e]
    cases v <;> rfl

theorem Own.keep0 {w w' : World} {base : Nat} {v : Value} {xs : List Nat} (h : Own w base v xs) (hg : w.grownBy w' none) : Own w' base v xs := h.keep hg (fun _ e => by cases e)

theorem Own.base {w : World} {base base' : Nat} {v : Value} {xs : List Nat} (h : Own w base v xs) (hb : ∀ k, blockOf v = some k → base' ≤ k) : Own w base' v xs := by
  refine ⟨h.1, ?_⟩
  rcases h.2 with h0 | ⟨g, cap, cur, rfl, h5, hh, h1, h2, h3, h4⟩
  · exact .inl h0
  · exact .inr ⟨g, cap, cur, rfl, hb g rfl, hh, h1, h2, h3, h4⟩

/-- An array that was just made, as such a slice. -/
theorem Arr.own {w : World} {g base : Nat} {xs : List Nat} (h : Arr w g xs) (hb : base ≤ g) (hm : xs.length ≤ maxLen) : Own w base (.slice (some ⟨g, 0, none⟩) xs.length xs.length) xs :=
  ⟨by simp [wordCells], .inr ⟨g, xs.length, wordCells xs, rfl, hb, h, Nat.le_refl _, hm, by simp [wordCells], List.take_of_length_le (by simp [wordCells])⟩⟩

theorem ownBlock_eq (v : Value) : v.ownBlock = blockOf v := by cases v <;> rfl

theorem gr_row {w w1 : World} {r : Option Nat} (h : w.grownBy w1 r) (g i : Nat) (v : Value) (hr : r = some g) : w.grownBy (w1.setCell ⟨g, i, none⟩ v) r :=
  gr_trans (r2 := some g) h ⟨rfl, rfl, rfl, by simp, fun k _ hr => heap_setCell_other _ _ _ _ (fun e => hr (by rw [e]))⟩ (fun _ _ e => e) (fun b hb e => by rw [hr]; exact e)

/-- As long as it can be: no nought at the end. -/
theorem tr_of_ge {ys : List Nat} (hs : Sm ys) (h : ys ≠ [] → 4294967296 ^ (ys.length - 1) ≤ val ys) : Tr ys := by
  by_cases hy : ys = []
  · subst hy; rfl
  · have h1 := h hy
    have h2 := val_trimL ys
    have h3 := val_lt hs.trimL
    have h4 := trimL_length ys
    rw [h2] at h3
    have h5 : ys.length - 1 < (trimL ys).length := (Nat.pow_lt_pow_iff_right (a := 4294967296) (by decide)).1 (Nat.lt_of_le_of_lt h1 h3)
    have hp : 0 < ys.length := List.length_pos_iff.2 hy
    have h6 : (trimL ys).length = ys.length := by omega
    unfold Tr
    apply List.ext_getElem h6
    intro i hi _
    exact trimL_get ys i hi

/-- v holds the number n, trimmed, in memory from block 'base' on that may be written to. -/
def OwnN (w : World) (base : Nat) (v : Value) (n L : Nat) : Prop := ∃ xs, Own w base v xs ∧ Sm xs ∧ Tr xs ∧ val xs = n ∧ xs.length ≤ L

theorem OwnN.num {w : World} {base : Nat} {v : Value} {n L : Nat} (h : OwnN w base v n L) : Num w v n L := by
  obtain ⟨xs, h1, h2, h3, h4, h5⟩ := h
  exact ⟨xs, h1.ws h2, h3, h4, h5⟩
theorem OwnN.mono {w : World} {base : Nat} {v : Value} {n L L' : Nat} (h : OwnN w base v n L) (hl : L ≤ L') : OwnN w base v n L' := by
  obtain ⟨xs, h1, h2, h3, h4, h5⟩ := h
  exact ⟨xs, h1, h2, h3, h4, Nat.le_trans h5 hl⟩
theorem OwnN.keep0 {w w' : World} {base : Nat} {v : Value} {n L : Nat} (h : OwnN w base v n L) (hg : w.grownBy w' none) : OwnN w' base v n L := by
  obtain ⟨xs, h1, h2, h3, h4, h5⟩ := h
  exact ⟨xs, h1.keep0 hg, h2, h3, h4, h5⟩
theorem OwnN.fresh {w : World} {base : Nat} {v : Value} {n L : Nat} (h : OwnN w base v n L) : ∀ k, blockOf v = some k → base ≤ k ∧ k < w.heap.size := by
  obtain ⟨xs, h1, h2, h3, h4, h5⟩ := h
  exact h1.fresh
theorem OwnN.base {w : World} {base base' : Nat} {v : Value} {n L : Nat} (h : OwnN w base v n L) (hb : base' ≤ base) : OwnN w base' v n L := by
  obtain ⟨xs, h1, h2, h3, h4, h5⟩ := h
  exact ⟨xs, h1.base (fun k hk => Nat.le_trans hb (h1.fresh k hk).1), h2, h3, h4, h5⟩
end Go.Proofs.YtfhamfgcjdhmdaaDoor
