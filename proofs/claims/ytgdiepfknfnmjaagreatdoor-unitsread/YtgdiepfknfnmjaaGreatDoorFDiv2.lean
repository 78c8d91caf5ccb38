/- frac: divide, the long way. -/
import Derived.Test.YtgdiepfknfnmjaaGreatDoorFDiv
namespace Go.Proofs.YtgdiepfknfnmjaaGreatDoor
open Go.RowKit
set_option linter.unusedVariables false

theorem bitLenAux_at : ∀ (f x : Nat), 0 < x → x < 2 ^ f → 1 ≤ Lib.bitLenAux f x ∧ Lib.bitLenAux f x ≤ f ∧ 2 ^ (Lib.bitLenAux f x - 1) ≤ x ∧ x < 2 ^ Lib.bitLenAux f x := by
  intro f
  induction f with
  | zero => intro x h1 h2; simp at h2; omega
  | succ f ih =>
    intro x h1 h2
    rw [Lib.bitLenAux, if_neg (by omega)]
    by_cases h3 : x / 2 = 0
    · have e : Lib.bitLenAux f (x / 2) = 0 := by
        rw [h3]
        cases f <;> simp [Lib.bitLenAux]
      rw [e]
      refine ⟨by omega, by omega, ?_, ?_⟩
      · simp; omega
      · simp; omega
    · obtain ⟨a, b, c, d⟩ := ih (x / 2) (by omega) (by rw [Nat.pow_succ] at h2; omega)
      generalize Lib.bitLenAux f (x / 2) = n at a b c d
      refine ⟨by omega, by omega, ?_, ?_⟩
      · obtain ⟨m, rfl⟩ : ∃ m, n = m + 1 := ⟨n - 1, by omega⟩
        rw [show 1 + (m + 1) - 1 = m + 1 from by omega, Nat.pow_succ]
        rw [Nat.add_sub_cancel] at c
        omega
      · rw [Nat.add_comm, Nat.pow_succ]
        omega

theorem bitLen_at (x : Nat) (h0 : 0 < x) (h : x < 4294967296) : 1 ≤ Lib.bitLen x ∧ Lib.bitLen x ≤ 32 ∧ 2 ^ (Lib.bitLen x - 1) ≤ x ∧ x < 2 ^ Lib.bitLen x := by
  have e : Lib.bitLen x = Lib.bitLenAux 32 x := Lib.bitLenAux_fuel 32 x (by omega) 64 (by omega)
  rw [e]
  exact bitLenAux_at 32 x h0 (by omega)

/-- When the digits from k on are done. -/
def FDivInv (w wr : World) (gu gq : Nat) (vs : List Nat) (N A k : Nat) (us qs : List Nat) : Prop :=
  us.length = N ∧ qs.length + k + vs.length = N ∧ Sm us ∧ Sm qs ∧ Arr wr gu us ∧ Arr wr gq (List.replicate k 0 ++ qs) ∧ w.grownBy wr none ∧ val (us.drop k) < val vs ∧
    A = val (us.take k) + 4294967296 ^ k * (val qs * val vs + val (us.drop k))

theorem FDivInv.next {w wr wr' : World} {gu gq : Nat} {vs : List Nat} {N A j : Nat} {us qs us2 : List Nat} (h : FDivInv w wr gu gq vs N A (j + 1) us qs) (hq : val (us.drop j) / val vs < 4294967296)
    (h1 : us2.length = N) (h2 : us2.take j = us.take j) (h3 : val (us2.drop j) = val (us.drop j) % val vs) (h4 : Sm us2) (a1 : Arr wr' gu us2) (a2 : Arr wr' gq (List.replicate (j + 1) 0 ++ qs)) (hg : w.grownBy wr' none)
    (hgq : w.heap.size ≤ gq) (hne : gq ≠ gu) (z : Int) (hz : z = ((val (us.drop j) / val vs : Nat) : Int)) :
    FDivInv w (wr'.setCell ⟨gq, j, none⟩ (.int .u32 z)) gu gq vs N A j us2 ((val (us.drop j) / val vs) :: qs) := by
  obtain ⟨i1, i2, i3, i4, i5, i6, i7, i8, i9⟩ := h
  have hpos : 0 < val vs := by omega
  refine ⟨h1, by simp; omega, h4, Sm.cons hq i4, ?_, ?_, gr_set hg _ _ hgq, by rw [h3]; exact Nat.mod_lt _ hpos, ?_⟩
  · unfold Arr
    rw [heap_setCell_other _ _ _ _ (fun e => hne e.symm)]
    exact a1
  · have := a2.set j (val (us.drop j) / val vs)
    rw [hz]
    have e : (List.replicate (j + 1) 0 ++ qs).set j (val (us.drop j) / val vs) = List.replicate j 0 ++ (val (us.drop j) / val vs) :: qs := by
      rw [← List.replicate_append_replicate (n := j) (m := 1), List.append_assoc, List.set_append_right _ _ (by simp)]
      simp
    rw [e] at this
    exact this
  · have hjl : j < us.length := by omega
    rw [i9, h2, h3, val_take_succ us j hjl, Nat.pow_succ]
    have e1 := val_drop_succ us j
    have e2 : us.getD j 0 = us[j] := by simp [hjl]
    rw [e2] at e1
    have e3 := Nat.div_add_mod (val (us.drop j)) (val vs)
    show _ = val (us.take j) + 4294967296 ^ j * ((val (us.drop j) / val vs + 4294967296 * val qs) * val vs + val (us.drop j) % val vs)
    generalize val (us.drop j) = D at e1 e3 ⊢
    generalize val (us.drop (j + 1)) = D1 at e1 ⊢
    generalize D / val vs = q at e3 ⊢
    generalize D % val vs = r at e3 ⊢
    generalize us[j] = u at e1 ⊢
    generalize val vs = V at e3 ⊢
    generalize val qs = Q
    generalize 4294967296 ^ j = p
    have e4 : (q + 4294967296 * Q) * V + r = u + 4294967296 * (Q * V + D1) := by
      rw [Nat.add_mul, Nat.mul_comm q V, Nat.mul_assoc 4294967296 Q V, Nat.mul_add]
      omega
    rw [e4, Nat.mul_add p u, Nat.mul_assoc p]
    omega

/-- At the loop's start: the words of x, raised. -/
theorem FDivInv.start {w wr : World} {gu gq : Nat} {vs us : List Nat} {X s : Nat} (su : Sm us) (hA : val us = X * 2 ^ s) (hX : X < 4294967296 ^ (us.length - 1)) (hs : s < 32) (tt : Nat) (hv0 : 0 < vs.length) (hvN : vs.length < us.length) (htt : vs[vs.length - 1]? = some tt) (ht0 : 2147483648 ≤ tt)
    (a1 : Arr wr gu us) (a2 : Arr wr gq (List.replicate (us.length - vs.length) 0)) (hg : w.grownBy wr none) :
    FDivInv w wr gu gq vs us.length (X * 2 ^ s) (us.length - vs.length) us [] := by
  have hd := val_drop us (us.length - vs.length) su (by omega)
  have hvl : 4294967296 ^ (vs.length - 1) * 2147483648 ≤ val vs := by
    obtain ⟨h1, h2⟩ := List.getElem?_eq_some_iff.1 htt
    have := val_split vs (vs.length - 1) h1
    rw [h2] at this
    have b : 4294967296 ^ (vs.length - 1) * 2147483648 ≤ 4294967296 ^ (vs.length - 1) * (tt + 4294967296 * val (vs.drop (vs.length - 1 + 1))) := Nat.mul_le_mul_left _ (by omega)
    omega
  refine ⟨rfl, by simp; omega, su, Sm.nil, a1, by rw [List.append_nil]; exact a2, hg, ?_, ?_⟩
  · rw [← hd, hA]
    have h1 : 2 ^ s ≤ 2 ^ 31 := Nat.pow_le_pow_right (by decide) (by omega)
    have h3 : X * 2 ^ s < 4294967296 ^ (us.length - 1) * 2147483648 := Nat.lt_of_lt_of_le (Nat.mul_lt_mul_of_pos_right hX (Nat.two_pow_pos s)) (Nat.mul_le_mul_left _ h1)
    have : X * 2 ^ s / 4294967296 ^ (us.length - vs.length) < 4294967296 ^ (vs.length - 1) * 2147483648 := by
      rw [Nat.div_lt_iff_lt_mul (Nat.pow_pos (by decide)), Nat.mul_right_comm, ← Nat.pow_add, show vs.length - 1 + (us.length - vs.length) = us.length - 1 from by omega]
      exact h3
    omega
  · have e := val_append (us.take (us.length - vs.length)) (us.drop (us.length - vs.length))
    rw [List.take_append_drop, List.length_take, show min (us.length - vs.length) us.length = us.length - vs.length from by omega, hA] at e
    simp only [val, Nat.zero_mul, Nat.zero_add]
    exact e

/-- A window of us is W now. -/
theorem win_drop {us W : List Nat} {j n : Nat} (hW : W.length = n) (hj : j + n ≤ us.length) (h0 : val (us.drop (j + n)) = 0) :
    (us.take j ++ W ++ us.drop (j + n)).length = us.length ∧ (us.take j ++ W ++ us.drop (j + n)).take j = us.take j ∧ val ((us.take j ++ W ++ us.drop (j + n)).drop j) = val W ∧ ((us.take j ++ W ++ us.drop (j + n)).drop j).take n = W ∧
      (us.take j ++ W ++ us.drop (j + n)).drop (j + n) = us.drop (j + n) := by
  have hl : (us.take j).length = j := by rw [List.length_take]; omega
  have hl2 : (us.take j ++ W).length = j + n := by rw [List.length_append, hl, hW]
  have e1 : (us.take j ++ W ++ us.drop (j + n)).drop j = W ++ us.drop (j + n) := by
    rw [List.append_assoc, List.drop_append_of_le_length (by omega), List.drop_of_length_le (by omega), List.nil_append]
  refine ⟨?_, ?_, ?_, ?_, ?_⟩
  · rw [List.length_append, hl2, List.length_drop]; omega
  · rw [List.append_assoc, List.take_append_of_le_length (by omega), List.take_of_length_le (by omega)]
  · rw [e1, val_append, h0, Nat.mul_zero, Nat.add_zero]
  · rw [e1, List.take_append_of_le_length (by omega), List.take_of_length_le (by omega)]
  · rw [List.drop_append_of_le_length (by omega), List.drop_of_length_le (by omega), List.nil_append]

theorem Ws.sub {w : World} {g j n cap : Nat} {us : List Nat} (h : Arr w g us) (hs : Sm us) (hj : j + n ≤ us.length) (hc : n ≤ cap) (hm : cap ≤ maxLen) : Ws w (.slice (some ⟨g, j, none⟩) n cap) ((us.drop j).take n) := by
  have hl : ((us.drop j).take n).length = n := by rw [List.length_take, List.length_drop]; omega
  refine ⟨(hs.drop j).take n, .inr ⟨g, j, cap, by rw [hl], h.lt, by omega, hm, fun i hi => ?_⟩⟩
  rw [hl] at hi
  rw [h.cell (j + i) (by omega)]
  simp

theorem gr_in {w w1 w2 : World} {g : Nat} (h : w.grownBy w1 none) (k : w1.grownBy w2 (some g)) (hg : w.heap.size ≤ g) : w.grownBy w2 none :=
  gr_trans (r2 := some g) h k (fun _ _ e => e) (fun b hb e => by cases e; omega)
end Go.Proofs.YtgdiepfknfnmjaaGreatDoor
