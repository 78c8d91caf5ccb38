/- What Bounce tells: how long its numbers are; waves to and fro as a sum; how they settle. -/
import Derived.Test.YtdpagdlmpajjkafGreatDoorXVc
import Derived.Test.YtdpagdlmpajjkafGreatDoorXVf
namespace Go.Proofs.YtdpagdlmpajjkafGreatDoor
open Go.RowKit
set_option linter.unusedVariables false
def boD (a b : Nat) : Nat → Nat
  | 0 => a
  | j + 1 => boD a b j * b
theorem boD_pos {a b : Nat} (ha : 0 < a) (hb : 0 < b) : ∀ j, 0 < boD a b j
  | 0 => ha
  | j + 1 => Nat.mul_pos (boD_pos ha hb j) hb
theorem boD_le {a b T : Nat} (ha : a ≤ T * T) (hb : b ≤ T) : ∀ j, boD a b j ≤ T ^ (j + 2)
  | 0 => by
    have e : T ^ (0 + 2) = T * T := by rw [Nat.zero_add, Nat.pow_succ, Nat.pow_one]
    rw [e]
    exact ha
  | j + 1 => by
    have h := Nat.mul_le_mul (boD_le ha hb j) hb
    have e : T ^ (j + 1 + 2) = T ^ (j + 2) * T := by rw [show j + 1 + 2 = (j + 2) + 1 from rfl, Nat.pow_succ]
    rw [e]
    exact h
theorem num_eq (q : Rat) : q * ((q.den : Nat) : Rat) = (q.num : Rat) := by
  have h : q = (q.num : Rat) / ((q.den : Nat) : Rat) := (Rat.mkRat_self q).symm.trans (Rat.mkRat_eq_div _ _)
  have hd : ((q.den : Nat) : Rat) ≠ 0 := by
    have := q.den_pos
    intro e
    have : q.den = 0 := by exact_mod_cast e
    omega
  grind
theorem bo_step {x y : Rat} {W f g : Rat} {T j : Nat} {N : Int} (hy : y = x * g + f) (hT : (W.den ≤ T ∧ f.den ≤ T ∧ g.den ≤ T) ∧ f.num.natAbs ≤ T ∧ g.num.natAbs ≤ T) (h1 : x * ((boD (W.den * f.den) g.den j : Nat) : Rat) = (N : Rat)) (h2 : N.natAbs ≤ (j + 1) * T ^ (j + 2)) :
    ∃ N' : Int, y * ((boD (W.den * f.den) g.den (j + 1) : Nat) : Rat) = (N' : Rat) ∧ N'.natAbs ≤ (j + 1 + 1) * T ^ (j + 1 + 2) := by
  have hg := num_eq g
  have hf := num_eq f
  have k : ∀ i, boD (W.den * f.den) g.den i = boD W.den g.den i * f.den := by
    intro i
    induction i with
    | zero => rfl
    | succ i ih =>
      show boD (W.den * f.den) g.den i * g.den = boD W.den g.den i * g.den * f.den
      rw [ih, Nat.mul_assoc, Nat.mul_assoc, Nat.mul_comm f.den g.den]
  refine ⟨N * g.num + f.num * ((boD W.den g.den (j + 1) : Nat) : Int), ?_, ?_⟩
  · have e1 : ((boD (W.den * f.den) g.den (j + 1) : Nat) : Rat) = ((boD (W.den * f.den) g.den j : Nat) : Rat) * ((g.den : Nat) : Rat) := by
      show (((boD (W.den * f.den) g.den j * g.den : Nat)) : Rat) = _
      exact Rat.natCast_mul _ _
    have e2 : ((boD (W.den * f.den) g.den (j + 1) : Nat) : Rat) = ((boD W.den g.den (j + 1) : Nat) : Rat) * ((f.den : Nat) : Rat) := by
      rw [k (j + 1)]
      exact Rat.natCast_mul _ _
    have e3 : ((N * g.num + f.num * ((boD W.den g.den (j + 1) : Nat) : Int) : Int) : Rat) = (N : Rat) * (g.num : Rat) + (f.num : Rat) * ((boD W.den g.den (j + 1) : Nat) : Rat) := by
      rw [Rat.intCast_add, Rat.intCast_mul, Rat.intCast_mul, Rat.intCast_natCast]
    rw [e3, hy, ← hg, ← hf, ← h1]
    generalize ((boD (W.den * f.den) g.den (j + 1) : Nat) : Rat) = A at *
    generalize ((boD (W.den * f.den) g.den j : Nat) : Rat) = A0 at *
    generalize ((boD W.den g.den (j + 1) : Nat) : Rat) = A1 at *
    generalize ((g.den : Nat) : Rat) = G at *
    generalize ((f.den : Nat) : Rat) = F at *
    grind
  · have b1 : boD W.den g.den (j + 1) ≤ T ^ (j + 1 + 1) := by
      have : ∀ i, boD W.den g.den i ≤ T ^ (i + 1) := by
        intro i
        induction i with
        | zero => rw [Nat.zero_add, Nat.pow_one]; exact hT.1.1
        | succ i ih => exact Nat.le_trans (Nat.mul_le_mul ih hT.1.2.2) (by rw [← Nat.pow_succ]; exact Nat.le_refl _)
      exact this (j + 1)
    have t1 := Int.natAbs_add_le (N * g.num) (f.num * ((boD W.den g.den (j + 1) : Nat) : Int))
    rw [Int.natAbs_mul, Int.natAbs_mul, Int.natAbs_natCast] at t1
    have t2 := Nat.mul_le_mul h2 hT.2.2
    have t3 := Nat.mul_le_mul hT.2.1 b1
    have e4 : T ^ (j + 1 + 2) = T ^ (j + 2) * T := by rw [show j + 1 + 2 = (j + 2) + 1 from rfl, Nat.pow_succ]
    have e5 : T * T ^ (j + 1 + 1) = T ^ (j + 2) * T := by rw [Nat.mul_comm]
    rw [e5] at t3
    rw [e4, Nat.add_mul]
    have e6 : (j + 1) * T ^ (j + 2) * T = (j + 1) * (T ^ (j + 2) * T) := Nat.mul_assoc _ _ _
    rw [e6] at t2
    omega
theorem bo_rep (W f g : Rat) (T : Nat) (hT1 : 1 ≤ T) (hW : W.num.natAbs ≤ T) (hT : (W.den ≤ T ∧ f.den ≤ T ∧ g.den ≤ T) ∧ f.num.natAbs ≤ T ∧ g.num.natAbs ≤ T) : ∀ j, (∃ N : Int, bo W f g (2 * j) * ((boD (W.den * f.den) g.den j : Nat) : Rat) = (N : Rat) ∧ N.natAbs ≤ (j + 1) * T ^ (j + 2)) ∧ (∃ N : Int, bo W f g (2 * j + 1) * ((boD (W.den * f.den) g.den j : Nat) : Rat) = (N : Rat) ∧ N.natAbs ≤ (j + 1) * T ^ (j + 2)) := by
  have sq : T ^ (0 + 2) = T * T := by rw [Nat.zero_add, Nat.pow_succ, Nat.pow_one]
  intro j
  induction j with
  | zero =>
    have hm : ((W.den * f.den : Nat) : Rat) = ((W.den : Nat) : Rat) * ((f.den : Nat) : Rat) := Rat.natCast_mul _ _
    refine ⟨⟨W.num * (f.den : Int), ?_, ?_⟩, ⟨f.num * (W.den : Int), ?_, ?_⟩⟩
    · show W * ((W.den * f.den : Nat) : Rat) = _
      rw [hm, Rat.intCast_mul, Rat.intCast_natCast, ← num_eq W]
      grind
    · rw [sq, Int.natAbs_mul, Int.natAbs_natCast, Nat.zero_add, Nat.one_mul]
      exact Nat.mul_le_mul hW hT.1.2.1
    · show (0 * g + f) * ((W.den * f.den : Nat) : Rat) = _
      rw [hm, Rat.intCast_mul, Rat.intCast_natCast, ← num_eq f]
      grind
    · rw [sq, Int.natAbs_mul, Int.natAbs_natCast, Nat.zero_add, Nat.one_mul]
      exact Nat.mul_le_mul hT.2.1 hT.1.1
  | succ j ih =>
    obtain ⟨⟨N, h1, h2⟩, ⟨N', h3, h4⟩⟩ := ih
    exact ⟨bo_step (y := bo W f g (2 * (j + 1))) rfl hT h1 h2, bo_step (y := bo W f g (2 * (j + 1) + 1)) rfl hT h3 h4⟩
theorem fit_of_rep {q : Rat} {D K : Nat} {N : Int} (hD : 0 < D) (h : q * ((D : Nat) : Rat) = (N : Rat)) (h1 : N.natAbs < 4294967296 ^ K) (h2 : D < 4294967296 ^ K) : FitW K q := by
  have hd : ((D : Nat) : Rat) ≠ 0 := by
    intro e
    have : D = 0 := by exact_mod_cast e
    omega
  have e : q = mkRat N D := by
    rw [Rat.mkRat_eq_div, ← h]
    grind
  rw [e]
  exact fit_mk (by omega) h1 h2
theorem bo_fit {W f g : Rat} {K : Nat} (hW : FitW K W) (hf : FitW K f) (hg : FitW K g) : ∀ i, i ≤ 50 → FitW (27 * K + 1) (bo W f g i) := by
  intro i hi
  have hT1 : 1 ≤ 4294967296 ^ K := Nat.pow_pos (by decide)
  obtain ⟨r1, r2⟩ := bo_rep W f g (4294967296 ^ K) hT1 (Nat.le_of_lt hW.1) ⟨⟨Nat.le_of_lt hW.2, Nat.le_of_lt hf.2, Nat.le_of_lt hg.2⟩, Nat.le_of_lt hf.1, Nat.le_of_lt hg.1⟩ (i / 2)
  have hj : i / 2 ≤ 25 := by omega
  have hD : 0 < boD (W.den * f.den) g.den (i / 2) := boD_pos (Nat.mul_pos W.den_pos f.den_pos) g.den_pos _
  have hDl := boD_le (a := W.den * f.den) (b := g.den) (T := 4294967296 ^ K) (Nat.mul_le_mul (Nat.le_of_lt hW.2) (Nat.le_of_lt hf.2)) (Nat.le_of_lt hg.2) (i / 2)
  have hp : (4294967296 ^ K) ^ (i / 2 + 2) ≤ 4294967296 ^ (27 * K) := by
    rw [← Nat.pow_mul, Nat.mul_comm 27 K]
    exact Nat.pow_le_pow_right (by decide) (Nat.mul_le_mul_left K (by omega))
  have h0 : 0 < 4294967296 ^ (27 * K) := Nat.pow_pos (by decide)
  have key : ∀ N : Int, N.natAbs ≤ (i / 2 + 1) * (4294967296 ^ K) ^ (i / 2 + 2) → N.natAbs < 4294967296 ^ (27 * K + 1) := by
    intro N hN
    have h1 : (i / 2 + 1) * (4294967296 ^ K) ^ (i / 2 + 2) ≤ 26 * 4294967296 ^ (27 * K) := Nat.mul_le_mul (by omega) hp
    rw [Nat.pow_succ]
    generalize 4294967296 ^ (27 * K) = z at *
    omega
  have hDb : boD (W.den * f.den) g.den (i / 2) < 4294967296 ^ (27 * K + 1) := by
    rw [Nat.pow_succ]
    have := Nat.le_trans hDl hp
    generalize 4294967296 ^ (27 * K) = z at *
    omega
  rcases (show i = 2 * (i / 2) ∨ i = 2 * (i / 2) + 1 by omega) with e | e
  · obtain ⟨N, h1, h2⟩ := r1
    rw [e]
    exact fit_of_rep hD h1 (key N h2) hDb
  · obtain ⟨N, h1, h2⟩ := r2
    rw [e]
    exact fit_of_rep hD h1 (key N h2) hDb
theorem bo_all_fit {L : Nat} {v s z r W f g : Rat} (hv : FitW L v) (hs : FitW L s) (hz : FitW L z) (hr : FitW L r) (h1 : s + z ≠ 0) (h2 : r + z ≠ 0) (hW : W = v * z / (s + z)) (hF : f = W + W * ((r - z) / (r + z))) (hG : g = (s - z) / (s + z) * ((r - z) / (r + z))) : ∀ i, i ≤ 50 → FitW (27 * (12 * L + 5) + 1) (bo W f g i) := by
  have w1 : FitW (4 * L + 1) W := by rw [hW]; exact fit_mono (fit_div (fit_mul hv hz) (fit_add hs hz) h1) (by omega)
  have gl : FitW (4 * L + 2) ((r - z) / (r + z)) := fit_mono (fit_div (fit_sub hr hz) (fit_add hr hz) h2) (by omega)
  have gs : FitW (4 * L + 2) ((s - z) / (s + z)) := fit_mono (fit_div (fit_sub hs hz) (fit_add hs hz) h1) (by omega)
  have f1 : FitW (12 * L + 5) f := by rw [hF]; exact fit_mono (fit_add w1 (fit_mul w1 gl)) (by omega)
  have g1 : FitW (12 * L + 5) g := by rw [hG]; exact fit_mono (fit_mul gs gl) (by omega)
  exact bo_fit (fit_mono w1 (by omega)) f1 g1
theorem bo_settles {v s z r W f g : Rat} (h1 : s + z ≠ 0) (h2 : r + z ≠ 0) (h3 : s + r ≠ 0) (hW : W = v * z / (s + z)) (hF : f = W + W * ((r - z) / (r + z))) (hG : g = (s - z) / (s + z) * ((r - z) / (r + z))) (n : Nat) :
    bo W f g (n + 2) - v * r / (s + r) = g * (bo W f g n - v * r / (s + r)) := by
  have e : bo W f g (n + 2) = bo W f g n * g + f := rfl
  rw [e]
  generalize bo W f g n = x
  have k1 : W * (s + z) = v * z := by grind
  have k2 : f * ((s + z) * (r + z)) = 2 * v * z * r := by grind
  have k3 : g * ((s + z) * (r + z)) = (s - z) * (r - z) := by grind
  obtain ⟨l, hl⟩ : ∃ l, l = v * r / (s + r) := ⟨_, rfl⟩
  rw [← hl]
  have k4 : l * (s + r) = v * r := by grind
  have k5 : (s + z) * (r + z) ≠ 0 := by grind
  have k6 : (f - (l - g * l)) * ((s + z) * (r + z)) = 0 := by grind
  have k7 : f - (l - g * l) = 0 := by grind
  grind
end Go.Proofs.YtdpagdlmpajjkafGreatDoor
