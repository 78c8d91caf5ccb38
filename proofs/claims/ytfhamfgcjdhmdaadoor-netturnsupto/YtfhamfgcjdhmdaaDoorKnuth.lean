/- Long division: the guess of a digit by the two highest words, and what a round does. Plain numbers. -/
import Derived.Test.YtfhamfgcjdhmdaaDoorMath
namespace Go.Proofs.YtfhamfgcjdhmdaaDoor

/-- What a round of long division has: the window U below b times the divisor V, both by their highest words. -/
structure KD (b U V P vt vn V0 h u2 U0 : Nat) : Prop where
  hV : V = (vt * b + vn) * P + V0
  hU : U = (h * b + u2) * P + U0
  hP : 0 < P
  hV0 : V0 < P
  hU0 : U0 < P
  hvt : b ≤ 2 * vt
  hb : 1 < b
  hvn : vn < b
  hu2 : u2 < b
  hlt : U < b * V

variable {b U V P vt vn V0 h u2 U0 : Nat}

theorem KD.pos (k : KD b U V P vt vn V0 h u2 U0) : 0 < V := by
  rcases Nat.eq_zero_or_pos V with e | e
  · have := k.hlt; rw [e] at this; omega
  · exact e

theorem KD.q_lt (k : KD b U V P vt vn V0 h u2 U0) : U / V < b := by
  rw [Nat.div_lt_iff_lt_mul k.pos]
  have := k.hlt
  omega

theorem KD.q_test (k : KD b U V P vt vn V0 h u2 U0) : U / V * (vt * b + vn) ≤ h * b + u2 := by
  have h1 : U / V * V ≤ U := Nat.div_mul_le_self U V
  have h2 : U / V * (vt * b + vn) * P ≤ U / V * V := by
    have e := k.hV
    generalize U / V = q
    generalize vt * b + vn = W at e ⊢
    rw [e, Nat.mul_add, Nat.mul_assoc]
    omega
  have h3 : U < (h * b + u2 + 1) * P := by
    rw [Nat.add_mul (h * b + u2) 1 P, Nat.one_mul]
    have := k.hU
    have := k.hU0
    omega
  have h4 : U / V * (vt * b + vn) * P < (h * b + u2 + 1) * P := by omega
  exact Nat.le_of_lt_succ (Nat.lt_of_mul_lt_mul_right h4)

theorem KD.q_h (k : KD b U V P vt vn V0 h u2 U0) : U / V * vt ≤ h := by
  have h1 := k.q_test
  have h2 := k.hu2
  generalize U / V = q at h1 ⊢
  have h3 : q * vt * b < (h + 1) * b := by
    rw [Nat.mul_add, ← Nat.mul_assoc] at h1
    rw [Nat.add_mul, Nat.one_mul]
    omega
  exact Nat.le_of_lt_succ (Nat.lt_of_mul_lt_mul_right h3)

theorem KD.init (k : KD b U V P vt vn V0 h u2 U0) : U / V ≤ h / vt := by
  rw [Nat.le_div_iff_mul_le (by have := k.hvt; have := k.hb; omega)]
  exact k.q_h

theorem KD.keep (k : KD b U V P vt vn V0 h u2 U0) {g r : Nat} (hg : g * vt + r = h) (ht : b ≤ g ∨ r * b + u2 < g * vn) : U / V < g := by
  rcases ht with ht | ht
  · have := k.q_lt; omega
  · have h1 := k.q_test
    have h2 : h * b + u2 < g * (vt * b + vn) := by
      rw [← hg, Nat.mul_add, ← Nat.mul_assoc, Nat.add_mul]
      omega
    exact Nat.lt_of_mul_lt_mul_right (Nat.lt_of_le_of_lt h1 h2)

theorem KD.h_le (k : KD b U V P vt vn V0 h u2 U0) : h ≤ vt * b + vn := by
  have h1 : (h * b + u2) * P ≤ U := by rw [k.hU]; omega
  have h2 : V < (vt * b + vn + 1) * P := by
    rw [Nat.add_mul _ 1 P, Nat.one_mul, k.hV]
    have := k.hV0
    omega
  have h3 : b * V ≤ b * ((vt * b + vn + 1) * P) := Nat.mul_le_mul_left _ (Nat.le_of_lt h2)
  have h4 : (h * b + u2) * P < (b * (vt * b + vn + 1)) * P := by
    rw [Nat.mul_assoc]
    have := k.hlt
    omega
  have h5 := Nat.lt_of_mul_lt_mul_right h4
  have h6 : b * h < b * (vt * b + vn + 1) := by
    rw [Nat.mul_comm b h]
    omega
  have h7 := Nat.lt_of_mul_lt_mul_left h6
  omega

theorem KD.brk (k : KD b U V P vt vn V0 h u2 U0) {g r : Nat} (hg : g * vt + r = h) (hr : b ≤ r) : g < b ∧ g * vn ≤ r * b + u2 := by
  have h1 := k.h_le
  have h2 := k.hvn
  have h3 : g * vt < b * vt := by
    rw [Nat.mul_comm b vt]
    omega
  have h4 := Nat.lt_of_mul_lt_mul_right h3
  refine ⟨h4, ?_⟩
  have h5 : g * vn ≤ b * b := Nat.mul_le_mul (by omega) (by omega)
  have h6 : b * b ≤ r * b := Nat.mul_le_mul_right _ hr
  omega

theorem KD.exit (k : KD b U V P vt vn V0 h u2 U0) {g r : Nat} (hg : g * vt + r = h) (hgb : g < b) (ht : g * vn ≤ r * b + u2) : g ≤ U / V + 1 := by
  have h1 : U < (U / V + 1) * V := by
    have := Nat.div_add_mod U V
    have := Nat.mod_lt U k.pos
    rw [Nat.add_mul, Nat.one_mul, Nat.mul_comm]
    omega
  generalize U / V = q at h1 ⊢
  rcases Nat.lt_or_ge (q + 1) g with hlt | hge
  · exfalso
    obtain ⟨m, rfl⟩ : ∃ m, g = m + 1 := ⟨g - 1, by omega⟩
    have h2 : (q + 1) * V ≤ m * V := Nat.mul_le_mul_right _ (by omega)
    have h3 : V ≤ (vt * b + vn + 1) * P := by
      rw [Nat.add_mul _ 1 P, Nat.one_mul, k.hV]
      have := k.hV0
      omega
    have h4 : m * V ≤ m * (vt * b + vn + 1) * P := by
      rw [Nat.mul_assoc]
      exact Nat.mul_le_mul_left _ h3
    have h5 : (m + 1) * (vt * b + vn) ≤ h * b + u2 := by
      rw [← hg, Nat.mul_add (m + 1) (vt * b), ← Nat.mul_assoc (m + 1) vt b, Nat.add_mul ((m + 1) * vt) r b]
      omega
    have h6 : (m + 1) * (vt * b + vn) * P ≤ U := by
      have := Nat.mul_le_mul_right P h5
      rw [k.hU]
      omega
    have h7 : (m + 1) * (vt * b + vn) * P < m * (vt * b + vn + 1) * P := by omega
    have h8 := Nat.lt_of_mul_lt_mul_right h7
    have h9 := k.hvt
    have h12 := k.hb
    have h11 : vt * b + vn < m := by
      generalize vt * b + vn = W at h8 ⊢
      rw [Nat.add_mul m 1 W, Nat.mul_add m W 1, Nat.one_mul, Nat.mul_one] at h8
      omega
    have h13 : 1 * b ≤ vt * b := Nat.mul_le_mul_right _ (by omega)
    omega
  · exact hge

/-- The highest words of a list, and what lies below them. -/
theorem split2 (ys : List Nat) (n : Nat) (hn : ys.length = n + 2) : val ys = (ys[n + 1] * 4294967296 + ys[n]) * 4294967296 ^ n + val (ys.take n) := by
  have h1 := val_split ys n (by omega)
  have h2 : ys.drop (n + 1) = [ys[n + 1]] := by
    rw [List.drop_eq_getElem_cons (by omega), List.drop_of_length_le (by omega)]
  rw [h2] at h1
  simp only [val, Nat.mul_zero, Nat.add_zero] at h1
  rw [h1, Nat.mul_comm (4294967296 ^ n), Nat.add_comm (ys[n]), Nat.mul_comm 4294967296]
  omega

theorem split3 (us : List Nat) (n : Nat) (hn : us.length = n + 3) : val us = ((us[n + 2] * 4294967296 + us[n + 1]) * 4294967296 + us[n]) * 4294967296 ^ n + val (us.take n) := by
  have h1 := val_split us n (by omega)
  have h2 : us.drop (n + 1) = [us[n + 1], us[n + 2]] := by
    rw [List.drop_eq_getElem_cons (by omega), List.drop_eq_getElem_cons (by omega), List.drop_of_length_le (by omega)]
  rw [h2] at h1
  simp only [val, Nat.mul_zero, Nat.add_zero] at h1
  rw [h1, Nat.mul_comm (4294967296 ^ n)]
  have e : us[n] + 4294967296 * (us[n + 1] + 4294967296 * us[n + 2]) = (us[n + 2] * 4294967296 + us[n + 1]) * 4294967296 + us[n] := by omega
  rw [e]
  omega

theorem kd_of (vs us : List Nat) (n : Nat) (hv : vs.length = n + 2) (hu : us.length = n + 3) (sv : Sm vs) (su : Sm us) (ht : 2147483648 ≤ vs[n + 1]) (hlt : val us < 4294967296 * val vs) :
    KD 4294967296 (val us) (val vs) (4294967296 ^ n) vs[n + 1] vs[n] (val (vs.take n)) (us[n + 2] * 4294967296 + us[n + 1]) us[n] (val (us.take n)) := by
  have e1 : (vs.take n).length = n := by rw [List.length_take]; omega
  have e2 : (us.take n).length = n := by rw [List.length_take]; omega
  refine ⟨split2 vs n hv, split3 us n hu, Nat.pow_pos (by decide), ?_, ?_, by omega, by decide, sv.get n (by omega), su.get n (by omega), hlt⟩
  · have := val_lt (sv.take n); rw [e1] at this; exact this
  · have := val_lt (su.take n); rw [e2] at this; exact this
end Go.Proofs.YtfhamfgcjdhmdaaDoor
