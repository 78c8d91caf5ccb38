/- Lehmer's strides: the mathematics. -/
import Derived.Test.YtfhamfgcjdhmdaaDoorFComb
namespace Go.Proofs.YtfhamfgcjdhmdaaDoor
open Go.RowKit
set_option linter.unusedVariables false

/-- What holds of a stride: the numbers X and Y, looked at from bit 'low' on (P = 2^low): H and N. -/
structure Stride (X Y P H N : Int) (a b c d hi nx : Int) : Prop where
  hh : hi = a * H + b * N
  hn : nx = c * H + d * N
  sg : (0 ≤ a ∧ b ≤ 0 ∧ c ≤ 0 ∧ 0 ≤ d) ∨ (a ≤ 0 ∧ 0 ≤ b ∧ 0 ≤ c ∧ d ≤ 0)
  ha : -1073741824 < a ∧ a < 1073741824
  hb : -1073741824 < b ∧ b < 1073741824
  hc : -1073741824 < c ∧ c < 1073741824
  hd : -1073741824 < d ∧ d < 1073741824
  ra : 0 ≤ hi + a
  rb : 0 ≤ hi + b
  rc : 0 ≤ nx + c
  rd : 0 ≤ nx + d
  le : nx ≤ hi
  top : hi ≤ H
  g : Int.gcd (a * X + b * Y) (c * X + d * Y) = Int.gcd X Y
  v0 : 0 ≤ c * X + d * Y
  vu : c * X + d * Y ≤ a * X + b * Y
  u0 : 0 < a * X + b * Y
  ux : a * X + b * Y ≤ X
  vy : c * X + d * Y ≤ Y
  ds : d ≠ 0
  bs : (a = 1 ∧ b = 0 ∧ c = 0 ∧ d = 1) ∨ (b ≠ 0 ∧ c * X + d * Y < Y)

theorem Stride.start {X Y P H N : Int} (hXY : Y ≤ X) (hY : 0 < Y) (hH : 0 ≤ N) (hN : N ≤ H) : Stride X Y P H N 1 0 0 1 H N := by
  refine ⟨by simp, by simp, by simp, by decide, by decide, by decide, by decide, by omega, by omega, by omega, by omega, hN, by omega, by simp, by simp; omega, by simp; omega, by simp; omega, by simp, by simp, by decide, by simp⟩

/-- What is known of the lower part. -/
theorem low_bound {P x t c d : Int} (hP : 0 < P) (hx : 0 ≤ x) (hx2 : x < P) (ht : 0 ≤ t) (ht2 : t < P) (hc : c ≤ 0) (hd : 0 ≤ d) : c * P ≤ c * x + d * t ∧ c * x + d * t ≤ d * P := by
  have h1 : c * P ≤ c * x := Int.mul_le_mul_of_nonpos_left hc (by omega)
  have h2 : 0 ≤ d * t := Int.mul_nonneg hd ht
  have h3 : c * x ≤ 0 := Int.mul_nonpos_of_nonpos_of_nonneg hc hx
  have h4 : d * t ≤ d * P := Int.mul_le_mul_of_nonneg_left (by omega) hd
  omega

theorem val_of {X Y P H N x t c d nx : Int} (hX : X = H * P + x) (hY : Y = N * P + t) (hn : nx = c * H + d * N) : c * X + d * Y = nx * P + (c * x + d * t) := by
  subst hX hY hn
  simp only [Int.mul_add, Int.add_mul, Int.mul_assoc]
  omega

theorem gcd_step (u v q : Int) : Int.gcd v (u - q * v) = Int.gcd u v := by
  rw [Int.gcd_comm u v]
  apply Nat.dvd_antisymm
  · apply Int.dvd_gcd (Int.gcd_dvd_left ..) 
    have h1 : ((Int.gcd v (u - q * v) : Nat) : Int) ∣ v := Int.gcd_dvd_left ..
    have h2 : ((Int.gcd v (u - q * v) : Nat) : Int) ∣ u - q * v := Int.gcd_dvd_right ..
    have h3 := Int.dvd_add h2 (Int.dvd_mul_of_dvd_right h1 (b := q))
    rwa [Int.sub_add_cancel] at h3
  · apply Int.dvd_gcd (Int.gcd_dvd_left ..)
    exact Int.dvd_sub (Int.gcd_dvd_right ..) (Int.dvd_mul_of_dvd_right (Int.gcd_dvd_left ..))

/-- A step of which one is sure. -/
theorem Stride.step {X Y P H N x t a b c d hi nx q : Int} (h : Stride X Y P H N a b c d hi nx) (hP : 0 < P) (hx : 0 ≤ x) (hx2 : x < P) (ht : 0 ≤ t) (ht2 : t < P) (hX : X = H * P + x) (hY : Y = N * P + t) (hXY : Y ≤ X)
    (g1 : nx + c ≠ 0) (g2 : nx + d ≠ 0) (q1 : q = (hi + a) / (nx + c)) (q2 : q = (hi + b) / (nx + d))
    (hc' : -1073741824 < a - q * c ∧ a - q * c < 1073741824) (hd' : -1073741824 < b - q * d ∧ b - q * d < 1073741824) :
    Stride X Y P H N c d (a - q * c) (b - q * d) nx (hi - q * nx) ∧ 0 ≤ hi - q * nx ∧ hi - q * nx < nx ∧ 0 ≤ q ∧ q * nx ≤ hi + 1073741824 := by
  have p1 : 0 < nx + c := by have := h.rc; omega
  have p2 : 0 < nx + d := by have := h.rd; omega
  have q0 : 0 ≤ q := by rw [q1]; exact Int.ediv_nonneg h.ra (by omega)
  have m1 : q * (nx + c) + (hi + a) % (nx + c) = hi + a := by
    have := Int.mul_ediv_add_emod (hi + a) (nx + c)
    rw [← q1, Int.mul_comm] at this
    exact this
  have m2 : q * (nx + d) + (hi + b) % (nx + d) = hi + b := by
    have := Int.mul_ediv_add_emod (hi + b) (nx + d)
    rw [← q2, Int.mul_comm] at this
    exact this
  have r1 := Int.emod_nonneg (hi + a) (Int.ne_of_gt p1)
  have r2 := Int.emod_nonneg (hi + b) (Int.ne_of_gt p2)
  have s1 := Int.emod_lt_of_pos (hi + a) p1
  have s2 := Int.emod_lt_of_pos (hi + b) p2
  rw [Int.mul_add] at m1 m2
  generalize (hi + a) % (nx + c) = R1 at *
  generalize (hi + b) % (nx + d) = R2 at *
  -- the new remainders
  have eU : a * X + b * Y = hi * P + (a * x + b * t) := val_of hX hY h.hh
  have eV : c * X + d * Y = nx * P + (c * x + d * t) := val_of hX hY h.hn
  have en : hi - q * nx = (a - q * c) * H + (b - q * d) * N := by
    have h1 := h.hh
    have h2 := h.hn
    rw [h1, h2]
    simp only [Int.mul_add, Int.sub_mul, Int.mul_assoc]
    omega
  have eV' : (a - q * c) * X + (b - q * d) * Y = (hi - q * nx) * P + ((a - q * c) * x + (b - q * d) * t) := val_of hX hY en
  have eVV : (a - q * c) * X + (b - q * d) * Y = (a * X + b * Y) - q * (c * X + d * Y) := by
    simp only [Int.mul_add, Int.sub_mul, Int.mul_assoc]
    omega
  have sgn' : (0 ≤ c ∧ d ≤ 0 ∧ a - q * c ≤ 0 ∧ 0 ≤ b - q * d) ∨ (c ≤ 0 ∧ 0 ≤ d ∧ 0 ≤ a - q * c ∧ b - q * d ≤ 0) := by
    rcases h.sg with ⟨a1, a2, a3, a4⟩ | ⟨a1, a2, a3, a4⟩
    · right
      have := Int.mul_nonpos_of_nonneg_of_nonpos q0 a3
      have := Int.mul_nonneg q0 a4
      omega
    · left
      have := Int.mul_nonneg q0 a3
      have := Int.mul_nonpos_of_nonneg_of_nonpos q0 a4
      omega
  have hnn : 0 ≤ hi - q * nx ∧ hi - q * nx < nx := by omega
  have hqn : q * nx ≤ hi + 1073741824 := by
    have := h.ha
    have := h.hb
    rcases h.sg with ⟨a1, a2, a3, a4⟩ | ⟨a1, a2, a3, a4⟩
    · have := Int.mul_nonneg q0 a4
      omega
    · have := Int.mul_nonneg q0 a3
      omega
  -- v is above 0, v' isn't below 0, v' is below v
  have hP1 : P ≤ (nx + c) * P := by
    have := Int.mul_le_mul_of_nonneg_right (show 1 ≤ nx + c by omega) (Int.le_of_lt hP)
    omega
  have hP2 : P ≤ (nx + d) * P := by
    have := Int.mul_le_mul_of_nonneg_right (show 1 ≤ nx + d by omega) (Int.le_of_lt hP)
    omega
  have hv : 0 < c * X + d * Y := by
    rw [eV]
    rcases h.sg with ⟨a1, a2, a3, a4⟩ | ⟨a1, a2, a3, a4⟩
    · have := (low_bound hP hx hx2 ht ht2 a3 a4).1
      rw [Int.add_mul] at hP1
      omega
    · have := (low_bound hP ht ht2 hx hx2 a4 a3).1
      rw [Int.add_mul] at hP2
      omega
  have e1 : 0 ≤ (hi - q * nx + (a - q * c)) * P := Int.mul_nonneg (by omega) (Int.le_of_lt hP)
  have e2 : 0 ≤ (hi - q * nx + (b - q * d)) * P := Int.mul_nonneg (by omega) (Int.le_of_lt hP)
  have hv0 : 0 ≤ (a - q * c) * X + (b - q * d) * Y := by
    rw [eV']
    rcases sgn' with ⟨a1, a2, a3, a4⟩ | ⟨a1, a2, a3, a4⟩
    · have := (low_bound hP hx hx2 ht ht2 a3 a4).1
      rw [Int.add_mul] at e1
      omega
    · have := (low_bound hP ht ht2 hx hx2 a4 a3).1
      rw [Int.add_mul] at e2
      omega
  have f1 : P ≤ (nx + c - (hi - q * nx + (a - q * c))) * P := by
    have := Int.mul_le_mul_of_nonneg_right (show 1 ≤ nx + c - (hi - q * nx + (a - q * c)) by omega) (Int.le_of_lt hP)
    omega
  have f2 : P ≤ (nx + d - (hi - q * nx + (b - q * d))) * P := by
    have := Int.mul_le_mul_of_nonneg_right (show 1 ≤ nx + d - (hi - q * nx + (b - q * d)) by omega) (Int.le_of_lt hP)
    omega
  have hlt : (a - q * c) * X + (b - q * d) * Y < c * X + d * Y := by
    rw [eV', eV]
    rw [Int.sub_mul, Int.add_mul, Int.add_mul] at f1 f2
    rcases sgn' with ⟨a1, a2, a3, a4⟩ | ⟨a1, a2, a3, a4⟩
    · have k1 := (low_bound hP ht ht2 hx hx2 a2 a1).1
      have k2 := (low_bound hP hx hx2 ht ht2 a3 a4).2
      omega
    · have k1 := (low_bound hP hx hx2 ht ht2 a1 a2).1
      have k2 := (low_bound hP ht ht2 hx hx2 a4 a3).2
      omega
  have hds : b - q * d ≠ 0 := by
    have hd0 := h.ds
    rcases h.bs with ⟨ea, eb, ec, ed⟩ | ⟨hb0, _⟩
    · subst ea eb ec ed
      have hle := h.le
      have : q ≠ 0 := by
        intro e
        rw [e] at m1
        omega
      omega
    · rcases h.sg with ⟨a1, a2, a3, a4⟩ | ⟨a1, a2, a3, a4⟩
      · have := Int.mul_nonneg q0 a4
        omega
      · have := Int.mul_nonpos_of_nonneg_of_nonpos q0 a4
        omega
  refine ⟨⟨h.hn, en, ?_, h.hc, h.hd, hc', hd', h.rc, h.rd, by omega, by omega, by omega, by have := h.top; have := h.le; omega, ?_, hv0, Int.le_of_lt hlt, hv, ?_, ?_, hds, .inr ⟨h.ds, ?_⟩⟩, hnn.1, hnn.2, q0, hqn⟩
  · omega
  · rw [eVV, gcd_step]; exact h.g
  · have := h.vy; omega
  · have := h.vy; omega
  · have := h.vy; omega
end Go.Proofs.YtfhamfgcjdhmdaaDoor
