/- Plain facts on words: lists of numbers below 2^32, the lowest first, and slices of them in memory. -/
import Derived.WalkKit
import Derived.Deep.Draws
namespace Go.Proofs.YtfhamfgcjdhmdaaDoor
open Go.RowKit

theorem hide {p : Prop} (h : p) : Hid p := h
theorem unhide {p : Prop} (h : Hid p) : p := h

/-- Noughts taken off the end. -/
def trimL : List Nat → List Nat
  | [] => []
  | x :: r => if trimL r = [] ∧ x = 0 then [] else x :: trimL r

theorem trimL_length (xs : List Nat) : (trimL xs).length ≤ xs.length := by
  induction xs with
  | nil => simp [trimL]
  | cons x r ih => unfold trimL; split <;> simp <;> omega

theorem trimL_snoc_zero (xs : List Nat) : trimL (xs ++ [0]) = trimL xs := by
  induction xs with
  | nil => simp [trimL]
  | cons x r ih => simp [trimL, ih]

theorem trimL_snoc_pos (xs : List Nat) (x : Nat) (h : x ≠ 0) : trimL (xs ++ [x]) = xs ++ [x] := by
  induction xs with
  | nil => simp [trimL, h]
  | cons y r ih => simp [trimL, ih]

theorem trimL_get (xs : List Nat) (i : Nat) (hi : i < (trimL xs).length) : (trimL xs)[i] = xs[i]'(Nat.lt_of_lt_of_le hi (trimL_length xs)) := by
  induction xs generalizing i with
  | nil => simp [trimL] at hi
  | cons x r ih =>
    by_cases h : trimL r = [] ∧ x = 0
    · have e : trimL (x :: r) = [] := by rw [trimL, if_pos h]
      rw [e] at hi; simp at hi
    · have e : trimL (x :: r) = x :: trimL r := by rw [trimL, if_neg h]
      cases i with
      | zero => simp [e]
      | succ i =>
        simp only [e, List.getElem_cons_succ]
        exact ih i (by rw [e] at hi; simpa using hi)

theorem take_snocN (xs : List Nat) (k : Nat) (h : k < xs.length) : xs.take (k + 1) = xs.take k ++ [xs[k]] := by
  rw [List.take_succ_eq_append_getElem h]

theorem trimL_take_zero (xs : List Nat) (k : Nat) (h : k < xs.length) (h0 : xs[k] = 0) : trimL (xs.take (k + 1)) = trimL (xs.take k) := by
  rw [take_snocN xs k h, h0, trimL_snoc_zero]

theorem trimL_take_pos (xs : List Nat) (k : Nat) (h : k < xs.length) (h0 : xs[k] ≠ 0) : trimL (xs.take (k + 1)) = xs.take (k + 1) := by
  rw [take_snocN xs k h, trimL_snoc_pos _ _ h0]

/-- The number that words make. -/
def val : List Nat → Nat
  | [] => 0
  | x :: r => x + 4294967296 * val r

theorem val_trimL (xs : List Nat) : val (trimL xs) = val xs := by
  induction xs with
  | nil => rfl
  | cons x r ih =>
    unfold trimL
    split
    · rename_i h
      simp only [val]
      rw [← ih, h.1, h.2]
      simp [val]
    · simp [val, ih]

theorem val_append (xs ys : List Nat) : val (xs ++ ys) = val xs + 4294967296 ^ xs.length * val ys := by
  induction xs with
  | nil => simp [val]
  | cons x r ih =>
    simp only [List.cons_append, val, ih, List.length_cons, Nat.pow_succ]
    rw [Nat.mul_add, ← Nat.mul_assoc, Nat.mul_comm 4294967296 (4294967296 ^ r.length)]
    omega

/-- All words below 2^32. -/
def Sm (xs : List Nat) : Prop := ∀ x ∈ xs, x < 4294967296

theorem Sm.nil : Sm [] := by simp [Sm]
theorem Sm.get {xs : List Nat} (h : Sm xs) (i : Nat) (hi : i < xs.length) : xs[i] < 4294967296 := h _ (List.getElem_mem hi)
theorem Sm.append {xs ys : List Nat} (h : Sm xs) (k : Sm ys) : Sm (xs ++ ys) := fun x hx => by
  rcases List.mem_append.1 hx with hx | hx
  · exact h x hx
  · exact k x hx
theorem Sm.cons {x : Nat} {xs : List Nat} (hx : x < 4294967296) (h : Sm xs) : Sm (x :: xs) := fun y hy => by
  rcases List.mem_cons.1 hy with rfl | hy
  · exact hx
  · exact h y hy
theorem Sm.take {xs : List Nat} (h : Sm xs) (n : Nat) : Sm (xs.take n) := fun x hx => h x (List.mem_of_mem_take hx)
theorem Sm.drop {xs : List Nat} (h : Sm xs) (n : Nat) : Sm (xs.drop n) := fun x hx => h x (List.mem_of_mem_drop hx)
theorem Sm.trimL {xs : List Nat} (h : Sm xs) : Sm (trimL xs) := by
  induction xs with
  | nil => exact h
  | cons x r ih =>
    unfold Go.Proofs.YtfhamfgcjdhmdaaDoor.trimL
    split
    · exact Sm.nil
    · exact Sm.cons (h x (by simp)) (ih fun y hy => h y (by simp [hy]))

theorem val_lt {xs : List Nat} (h : Sm xs) : val xs < 4294967296 ^ xs.length := by
  induction xs with
  | nil => simp [val]
  | cons x r ih =>
    have hx := h x (by simp)
    have hr := ih fun y hy => h y (by simp [hy])
    simp only [val, List.length_cons, Nat.pow_succ]
    have : 4294967296 * val r + 4294967296 ≤ 4294967296 ^ r.length * 4294967296 := by
      rw [Nat.mul_comm (4294967296 ^ r.length)]
      have : val r + 1 ≤ 4294967296 ^ r.length := hr
      have := Nat.mul_le_mul_left 4294967296 this
      omega
    omega

/-- Trimmed: no nought at the end. -/
def Tr (xs : List Nat) : Prop := trimL xs = xs

theorem trimL_trimL (xs : List Nat) : trimL (trimL xs) = trimL xs := by
  induction xs with
  | nil => rfl
  | cons x r ih =>
    by_cases h : trimL r = [] ∧ x = 0
    · have e : trimL (x :: r) = [] := by rw [trimL, if_pos h]
      rw [e]; rfl
    · have e : trimL (x :: r) = x :: trimL r := by rw [trimL, if_neg h]
      rw [e, trimL, ih, if_neg h]

theorem Tr.trimL (xs : List Nat) : Tr (trimL xs) := trimL_trimL xs

theorem Tr.tail {x : Nat} {r : List Nat} (h : Tr (x :: r)) : Tr r := by
  unfold Tr at h ⊢
  unfold Go.Proofs.YtfhamfgcjdhmdaaDoor.trimL at h
  split at h
  · cases h
  · exact (List.cons.inj h).2

theorem Tr.pos {x : Nat} {r : List Nat} (h : Tr (x :: r)) : 0 < val (x :: r) := by
  induction r generalizing x with
  | nil =>
    unfold Tr Go.Proofs.YtfhamfgcjdhmdaaDoor.trimL at h
    simp [Go.Proofs.YtfhamfgcjdhmdaaDoor.trimL] at h
    simp [val]; omega
  | cons y r ih =>
    have := ih (Tr.tail h)
    show 0 < x + 4294967296 * val (y :: r)
    omega

/-- One number has one trimmed form. -/
theorem val_inj : ∀ {xs ys : List Nat}, Sm xs → Sm ys → Tr xs → Tr ys → val xs = val ys → xs = ys
  | [], [], _, _, _, _, _ => rfl
  | [], y :: s, _, _, _, ty, h => by have := Tr.pos ty; rw [← h] at this; simp [val] at this
  | x :: r, [], _, _, tx, _, h => by have := Tr.pos tx; rw [h] at this; simp [val] at this
  | x :: r, y :: s, hx, hy, tx, ty, h => by
    have a := hx x (by simp)
    have b := hy y (by simp)
    simp only [val] at h
    have e : x = y := by omega
    have e2 : val r = val s := by omega
    rw [e, val_inj (fun z hz => hx z (by simp [hz])) (fun z hz => hy z (by simp [hz])) (Tr.tail tx) (Tr.tail ty) e2]

/-- The slice v holds the words xs (cells of type uint32). -/
structure Ws (w : World) (v : Value) (xs : List Nat) : Prop where
  sm : Sm xs
  sh : (v = .slice none 0 0 ∧ xs = []) ∨ ∃ b off cap, v = .slice (some ⟨b, off, none⟩) xs.length cap ∧ b < w.heap.size ∧ xs.length ≤ cap ∧ cap ≤ maxLen ∧ ∀ i (h : i < xs.length), w.cell? ⟨b, off + i, none⟩ = some (.int .u32 (xs[i] : Nat))

/-- The block of a slice. -/
def blockOf : Value → Option Nat
  | .slice (some a) _ _ => some a.block
  | _ => none

theorem Ws.keep {w w' : World} {v : Value} {xs : List Nat} {row : Option Nat} (h : Ws w v xs) (hg : w.grownBy w' row) (hr : ∀ k, row = some k → blockOf v ≠ some k) : Ws w' v xs := by
  refine ⟨h.sm, ?_⟩
  rcases h.sh with h | ⟨b, off, cap, rfl, hb, hl, hm, hc⟩
  · exact .inl h
  · refine .inr ⟨b, off, cap, rfl, Nat.lt_of_lt_of_le hb hg.size, hl, hm, fun i hi => hg.cell (hc i hi) ?_⟩
    intro e
    exact hr b e.symm rfl

theorem Ws.nil (w : World) : Ws w (.slice none 0 0) [] := ⟨Sm.nil, .inl ⟨rfl, rfl⟩⟩
end Go.Proofs.YtfhamfgcjdhmdaaDoor
