/- Plain facts on words for the loops of voltaicbig and frac. -/
import Derived.Test.YtfhamfgcjdhmdaaDoorBase
namespace Go.Proofs.YtfhamfgcjdhmdaaDoor

theorem val_snoc (xs : List Nat) (x : Nat) : val (xs ++ [x]) = val xs + 4294967296 ^ xs.length * x := by
  rw [val_append]; simp [val]

theorem val_take_succ (xs : List Nat) (k : Nat) (h : k < xs.length) : val (xs.take (k + 1)) = val (xs.take k) + 4294967296 ^ k * xs[k] := by
  rw [take_snocN xs k h, val_snoc]
  congr 2
  rw [List.length_take]
  congr 1
  omega

theorem carry_step (p c : Nat) : p * (c % 4294967296) + p * 4294967296 * (c / 4294967296) = p * c := by
  rw [Nat.mul_assoc, ← Nat.mul_add, Nat.mod_add_div]

theorem val_replicate (n : Nat) : val (List.replicate n 0) = 0 := by
  induction n with
  | zero => rfl
  | succ n ih => simp [List.replicate_succ, val, ih]

theorem set_front (done : List Nat) (k m v : Nat) (h : done.length = k) (hm : 0 < m) : (done ++ List.replicate m 0).set k v = (done ++ [v]) ++ List.replicate (m - 1) 0 := by
  obtain ⟨m, rfl⟩ : ∃ j, m = j + 1 := ⟨m - 1, by omega⟩
  subst h
  rw [List.set_append_right _ _ (Nat.le_refl _)]
  simp [List.replicate_succ]

theorem Sm.snoc {xs : List Nat} (h : Sm xs) (x : Nat) : Sm (xs ++ [x % 4294967296]) := h.append (Sm.cons (Nat.mod_lt _ (by decide)) Sm.nil)
theorem Sm.replicate (n : Nat) : Sm (List.replicate n 0) := fun x hx => by
  have := List.eq_of_mem_replicate hx
  omega

theorem add_step (done : List Nat) (k c x y X Y : Nat) (hk : done.length = k) (h : val done + 4294967296 ^ k * c = X + Y) :
    val (done ++ [(c + x + y) % 4294967296]) + 4294967296 ^ (k + 1) * ((c + x + y) / 4294967296) = (X + 4294967296 ^ k * x) + (Y + 4294967296 ^ k * y) := by
  rw [val_snoc, hk, Nat.pow_succ, Nat.add_assoc, carry_step, Nat.mul_add, Nat.mul_add]
  omega

theorem val_take_succ' (xs : List Nat) (k : Nat) : val (xs.take (k + 1)) = val (xs.take k) + 4294967296 ^ k * xs.getD k 0 := by
  by_cases h : k < xs.length
  · rw [val_take_succ xs k h]; simp [h]
  · rw [List.take_of_length_le (by omega), List.take_of_length_le (by omega)]
    simp [List.getD, h]

theorem Sm.getD {xs : List Nat} (h : Sm xs) (k : Nat) : xs.getD k 0 < 4294967296 := by
  by_cases hk : k < xs.length
  · simp only [List.getD, List.getElem?_eq_getElem hk, Option.getD_some]; exact h.get k hk
  · simp only [List.getD, List.getElem?_eq_none (Nat.le_of_not_lt hk), Option.getD_none]; decide

theorem val_split (xs : List Nat) (j : Nat) (h : j < xs.length) : val xs = val (xs.take j) + 4294967296 ^ j * (xs[j] + 4294967296 * val (xs.drop (j + 1))) := by
  have e : xs = xs.take j ++ (xs[j] :: xs.drop (j + 1)) := by
    rw [← List.drop_eq_getElem_cons h, List.take_append_drop]
  have e2 : (xs.take j).length = j := by rw [List.length_take]; omega
  have := val_append (xs.take j) (xs[j] :: xs.drop (j + 1))
  rw [← e, e2] at this
  exact this

theorem val_lt_of_top (xs ys : List Nat) (j : Nat) (hx : j < xs.length) (hy : j < ys.length) (sx : Sm xs) (hd : xs.drop (j + 1) = ys.drop (j + 1)) (hlt : xs[j] < ys[j]) : val xs < val ys := by
  rw [val_split xs j hx, val_split ys j hy, ← hd]
  have h1 := val_lt (sx.take j)
  rw [List.length_take, show min j xs.length = j from by omega] at h1
  have h2 : 4294967296 ^ j * (xs[j] + 4294967296 * val (xs.drop (j + 1)) + 1) ≤ 4294967296 ^ j * (ys[j] + 4294967296 * val (xs.drop (j + 1))) := Nat.mul_le_mul_left _ (by omega)
  rw [Nat.mul_add, Nat.mul_one] at h2
  omega

theorem tr_ge {xs : List Nat} (h : Tr xs) (hne : xs ≠ []) : 4294967296 ^ (xs.length - 1) ≤ val xs := by
  induction xs with
  | nil => exact absurd rfl hne
  | cons x r ih =>
    cases r with
    | nil => have := h.pos; simp only [List.length_singleton, Nat.sub_self, Nat.pow_zero]; omega
    | cons y s =>
      have := ih h.tail (by simp)
      simp only [List.length_cons, Nat.add_sub_cancel] at this ⊢
      show _ ≤ x + 4294967296 * val (y :: s)
      rw [Nat.pow_succ, Nat.mul_comm]
      have := Nat.mul_le_mul_left 4294967296 this
      omega

theorem val_lt_of_length {xs ys : List Nat} (sx : Sm xs) (ty : Tr ys) (h : xs.length < ys.length) : val xs < val ys := by
  have h1 := val_lt sx
  have h2 := tr_ge ty (by intro e; subst e; simp at h)
  have h3 : 4294967296 ^ xs.length ≤ 4294967296 ^ (ys.length - 1) := Nat.pow_le_pow_right (by decide) (by omega)
  omega

/-- -1, 0, 1. -/
def ord (m n : Nat) : Int := if m < n then -1 else if m = n then 0 else 1
theorem ord_lt {m n : Nat} (h : m < n) : ord m n = -1 := by simp [ord, h]
theorem ord_eq (m : Nat) : ord m m = 0 := by simp [ord]
theorem ord_gt {m n : Nat} (h : n < m) : ord m n = 1 := by
  unfold ord
  rw [if_neg (by omega), if_neg (by omega)]
end Go.Proofs.YtfhamfgcjdhmdaaDoor
