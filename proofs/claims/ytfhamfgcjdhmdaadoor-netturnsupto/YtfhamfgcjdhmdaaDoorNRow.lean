/- Arrays of one-cell values that a call makes; labels; rows of whole numbers. -/
import Derived.Test.YtfhamfgcjdhmdaaDoorNCheck2
import Derived.Test.YtfhamfgcjdhmdaaDoorNMath
namespace Go.Proofs.YtfhamfgcjdhmdaaDoor
open Go.RowKit
set_option linter.unusedVariables false

/-- Block g is an array, all of it known, none of it frozen. -/
def RArr {α : Type} (f : α → Value) (t : TypeId) (w : World) (g : Nat) (xs : List α) : Prop := w.heap[g]? = some (.cells (xs.map f).toArray t (0, 0))

section
variable {α : Type} {f : α → Value} {t : TypeId} {w w' : World} {g : Nat} {xs : List α}
theorem RArr.lt (h : RArr f t w g xs) : g < w.heap.size := (Array.getElem?_eq_some_iff.1 h).1
theorem RArr.cell (h : RArr f t w g xs) (i : Nat) (hi : i < xs.length) : w.cell? ⟨g, i, none⟩ = some (f xs[i]) := by
  unfold RArr at h
  simp [World.cell?, h, hi]
theorem RArr.free (h : RArr f t w g xs) (i : Nat) : w.frozen? ⟨g, i, none⟩ = false := by
  unfold RArr at h
  simp [World.frozen?, h]
theorem RArr.set (h : RArr f t w g xs) (i : Nat) (x : α) (z : Value) (hz : z = f x) : RArr f t (w.setCell ⟨g, i, none⟩ z) g (xs.set i x) := by
  unfold RArr at h ⊢
  rw [heap_setCell_same w g i _ _ _ h, hz]
  simp [List.map_set]
theorem RArr.keep {row : Option Nat} (h : RArr f t w g xs) (hg : w.grownBy w' row) (hr : some g ≠ row) : RArr f t w' g xs := by
  have hl := h.lt
  unfold RArr at h ⊢
  rw [hg.block g hl hr, h]
theorem RArr.keep0 (h : RArr f t w g xs) (hg : w.grownBy w' none) : RArr f t w' g xs := h.keep hg (by simp)
end

abbrev iv (x : Int) : Value := .int .i64 x
abbrev bv (b : Bool) : Value := .bool b
abbrev IArr (w : World) (g : Nat) (xs : List Int) : Prop := RArr iv 3 w g xs
abbrev BArr (w : World) (g : Nat) (xs : List Bool) : Prop := RArr bv 4 w g xs

/-- 'make([]T, n)', T of one cell. -/
theorem wpList_make_g {P : Program} {α : Type} (f : α → Value) (e : TypeId) (z0 : α) (by_ : Nat) (w : World) {ops : Array Oper} {rest : List Oper} {o : Oper} {a : Act} {Q : Exit → Act → World → Prop}
    (hg : o.guard = none) (l c : Operand) (t : TypeId) (hop : o.op = Op.makeSlice t l c)
    (h1 : P.underlying t = some (.slice e)) (hinfo : (P.info? e).map (fun i => (i.zero, i.size, i.bytes)) = some (some (f z0), 1, by_)) (hcell : (f z0).cells = #[f z0])
    (kl kc : IntKind) (L C : Int) (n : Nat) (hl : a.eval l = .int kl L) (hc : a.eval c = .int kc C) (hL : L = (n : Int)) (hC : C = (n : Int)) (b2 : n ≤ 1073741824) (hby : by_ ≤ 8)
    (hK : ∀ w', RArr f e w' w.heap.size (List.replicate n z0) → w.grownBy w' none → wpList P ops Q rest (a.put o.dst (.slice (some ⟨w.heap.size, 0, none⟩) n n)) w') :
    wpList P ops Q (o :: rest) a w := by
  obtain ⟨i, hi, hz0, hz1, hz2⟩ := info_parts hinfo
  refine wpList_make_full w hg l c t hop w.heap.size e i (f z0) 1 h1 hi hz0 hz1 kl kc L C n hl hc hL hC (by rw [hz2]; have := Nat.mul_le_mul hby b2; omega) (by unfold maxLen; omega) (Nat.le_refl _) ?_
  intro w' hown hgr
  refine hK w' ?_ hgr
  obtain ⟨_, h⟩ := hown
  rcases h with ⟨h, _⟩ | ⟨g, cap, cur, h, _, hh, _, _, hsz, ht⟩
  · simp at h
  · simp only [Value.slice.injEq, Option.some.injEq, Addr.mk.injEq, and_true, true_and] at h
    obtain ⟨rfl, rfl⟩ := h
    unfold RArr
    rw [hh]
    have hm : madeCells (f z0).cells (n * 1) = ((List.replicate n z0).map f).toArray := by
      apply Array.ext
      · simp [madeCells]
      · intro i h1 h2
        simp [madeCells, hcell, Nat.mod_one]
    have : cur = ((List.replicate n z0).map f).toArray := by
      rw [← hm]
      apply Array.ext'
      rw [← ht, List.take_of_length_le (by simp [hsz])]
    rw [this]

theorem Tryd.infoInt : (Tryd.prog.info? 3).map (fun i => (i.zero, i.size, i.bytes)) = some (some (iv 0), 1, 8) := by kernel_rfl
theorem Tryd.infoBool : (Tryd.prog.info? 4).map (fun i => (i.zero, i.size, i.bytes)) = some (some (bv false), 1, 1) := by kernel_rfl

/-- The labels of n nodes. -/
def labs (n : Nat) (l : Nat → Nat) : List Int := (List.range n).map fun x => ((l x : Nat) : Int)

theorem labs_length (n : Nat) (l : Nat → Nat) : (labs n l).length = n := by simp [labs]
theorem labs_get (n : Nat) (l : Nat → Nat) (i : Nat) (h : i < (labs n l).length) : (labs n l)[i] = ((l i : Nat) : Int) := by simp [labs]
theorem labs_set (n : Nat) (l : Nat → Nat) (i y : Nat) (h : i < n) : (labs n l).set i ((y : Nat) : Int) = labs n (fun x => if x = i then y else l x) := by
  apply List.ext_getElem
  · simp [labs]
  · intro k h1 h2
    rw [List.getElem_set]
    by_cases e : i = k
    · subst e; simp [labs]
    · have e2 : ¬ k = i := fun h => e h.symm
      simp [labs, e, e2]
theorem labs_congr (n : Nat) (l m : Nat → Nat) (h : ∀ x, x < n → l x = m x) : labs n l = labs n m := by
  unfold labs
  apply List.map_congr_left
  intro x hx
  rw [h x (List.mem_range.1 hx)]

def ApR (w : World) (n : Nat) (v : Value) (wr : World) : Prop := ∃ k : Nat, k ≤ n ∧ v = .int .i64 k ∧ IArr wr w.heap.size (labs n fun x => if x < k then x else 0) ∧ w.grownBy wr none

set_option maxHeartbeats 1000000 in
theorem apart_at (n : Nat) (w : World) (hn : n ≤ 8) :
    Calls Tryd.prog 15 #[.int .i64 (n : Nat)] w fun e w' => e = .returned (.slice (some ⟨w.heap.size, 0, none⟩) n n) ∧ IArr w' w.heap.size (labs n (labF [])) ∧ w.grownBy w' none := by
  go_enter Tryd.func15, Tryd.ntmps15
  go_wp2_with (at_make; refine wpList_make_g iv 3 0 8 _ rfl _ _ 46 rfl Tryd.underlying46 Tryd.infoInt rfl _ _ _ _ n rfl rfl (by omega) (by omega) (by omega) (by omega) ?_)
  intro w1 harr hgr
  have HR := hide harr
  have HG := hide hgr
  clear harr hgr
  go_wp2
  go_loopw [9] (fun v wr => Hid (ApR w n v wr)) (fun v _ => n - (intOf v).toNat)
  case atStart =>
    refine ⟨0, by omega, rfl, ?_, HG.out⟩
    have e : labs n (fun x => if x < 0 then x else 0) = List.replicate n 0 := by
      apply List.ext_getElem
      · simp [labs]
      · intro i h1 h2; simp [labs]
    rw [e]
    exact HR.out
  case round =>
    obtain ⟨k, hk, rfl, h1, h2⟩ := hrel.out
    by_cases hlt : k < n
    · have hfr := h1.free k
      obtain ⟨v0, hco⟩ : ∃ v, wr.cell? ⟨w.heap.size, k, none⟩ = some v := ⟨_, h1.cell k (by rw [labs_length]; exact hlt)⟩
      have H1 := hide h1
      have H2 := hide h2
      clear h1 h2 hrel
      go_wp2
      go_roundw
      case rel =>
        refine ⟨k + 1, by omega, by go_num, ?_, gr_set H2.out _ _ (Nat.le_refl _)⟩
        have := H1.out.set k ((k : Nat) : Int) (.int .i64 (k : Nat)) rfl
        rw [labs_set n _ k k hlt] at this
        rw [labs_congr n (fun x => if x < k + 1 then x else 0) (fun x => if x = k then k else if x < k then x else 0)]
        · exact this
        · intro x hx
          by_cases e : x = k
          · subst e; simp
          · by_cases e2 : x < k
            · rw [if_pos (by omega), if_neg e, if_pos e2]
            · rw [if_neg (by omega), if_neg e, if_neg e2]
      case measure => simp [intOf]; omega
    · obtain rfl : k = n := by omega
      have H1 := hide h1
      have H2 := hide h2
      clear h1 h2 hrel
      go_wp2
      go_ret
      refine ⟨rfl, ?_, H2.out⟩
      rw [labs_congr k (labF []) (fun x => if x < k then x else 0) (fun x hx => by rw [if_pos hx]; rfl)]
      exact H1.out
end Go.Proofs.YtfhamfgcjdhmdaaDoor
