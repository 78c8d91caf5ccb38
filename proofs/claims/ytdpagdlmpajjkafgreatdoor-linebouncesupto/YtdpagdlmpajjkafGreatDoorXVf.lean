/- How long sums, products and quotients are. -/
import Derived.Test.YtdpagdlmpajjkafGreatDoorXVb
import Derived.Test.YtdpagdlmpajjkafGreatDoorXZc
import Derived.Test.YtdpagdlmpajjkafGreatDoorXVRefl
import Derived.Test.YtdpagdlmpajjkafGreatDoorXFg
import Derived.Test.YtdpagdlmpajjkafGreatDoorXVRef
namespace Go.Proofs.YtdpagdlmpajjkafGreatDoor
open Go.RowKit
set_option linter.unusedVariables false
theorem pow_mul_lt {a b x y : Nat} (hx : x < 4294967296 ^ a) (hy : y < 4294967296 ^ b) : x * y < 4294967296 ^ (a + b) := by
  rw [Nat.pow_add]
  have h0 : 0 < 4294967296 ^ b := Nat.pow_pos (by decide)
  exact Nat.lt_of_le_of_lt (Nat.mul_le_mul_left x (Nat.le_of_lt hy)) (Nat.mul_lt_mul_of_pos_right hx h0)
theorem fit_mk {K : Nat} {x : Int} {y : Nat} (hy : y ≠ 0) (h1 : x.natAbs < 4294967296 ^ K) (h2 : y < 4294967296 ^ K) : FitW K (mkRat x y) := by
  refine ⟨?_, ?_⟩
  · unfold rN
    rw [Rat.num_mkRat, if_neg hy]
    exact Nat.lt_of_le_of_lt (Int.natAbs_ediv_le_natAbs _ _) h1
  · rw [Rat.den_mkRat, if_neg hy]
    exact Nat.lt_of_le_of_lt (Nat.div_le_self _ _) h2
theorem fit_mul {a b : Nat} {p q : Rat} (hp : FitW a p) (hq : FitW b q) : FitW (a + b) (p * q) := by
  rw [Rat.mul_def' p q]
  refine fit_mk (Nat.ne_of_gt (Nat.mul_pos p.den_pos q.den_pos)) ?_ (pow_mul_lt hp.2 hq.2)
  rw [Int.natAbs_mul]
  exact pow_mul_lt hp.1 hq.1
theorem two_pow {n K : Nat} (h : n < 2 * 4294967296 ^ K) : n < 4294967296 ^ (K + 1) := by
  rw [Nat.pow_succ]
  have : 0 < 4294967296 ^ K := Nat.pow_pos (by decide)
  generalize 4294967296 ^ K = z at *
  omega
theorem fit_add {a b : Nat} {p q : Rat} (hp : FitW a p) (hq : FitW b q) : FitW (a + b + 1) (p + q) := by
  rw [Rat.add_def' p q]
  have h1 := pow_mul_lt hp.1 hq.2
  have h2 : q.num.natAbs * p.den < 4294967296 ^ (a + b) := by rw [Nat.add_comm a b]; exact pow_mul_lt hq.1 hp.2
  refine fit_mk (Nat.ne_of_gt (Nat.mul_pos p.den_pos q.den_pos)) (two_pow ?_) (two_pow ?_)
  · have h3 := Int.natAbs_add_le (p.num * (q.den : Int)) (q.num * (p.den : Int))
    rw [Int.natAbs_mul, Int.natAbs_mul, Int.natAbs_natCast, Int.natAbs_natCast] at h3
    unfold rN at h1
    generalize 4294967296 ^ (a + b) = z at *
    omega
  · have h3 := pow_mul_lt hp.2 hq.2
    generalize 4294967296 ^ (a + b) = z at *
    omega
theorem fit_neg {a : Nat} {p : Rat} (hp : FitW a p) : FitW a (-p) := by
  obtain ⟨_, h2, h3⟩ := oppB_q p
  exact ⟨by rw [h2]; exact hp.1, by rw [h3]; exact hp.2⟩
theorem fit_sub {a b : Nat} {p q : Rat} (hp : FitW a p) (hq : FitW b q) : FitW (a + b + 1) (p - q) := by
  rw [Rat.sub_eq_add_neg]
  exact fit_add hp (fit_neg hq)
theorem fit_inv {a : Nat} {p : Rat} (hp : FitW a p) (h0 : p ≠ 0) : FitW a p⁻¹ := by
  have hn : p.num ≠ 0 := fun e => h0 (Rat.num_eq_zero.1 e)
  have e : p⁻¹ = mkRat (p.num.sign * (p.den : Int)) p.num.natAbs := by
    rw [Rat.inv_def]
    rcases Int.lt_trichotomy p.num 0 with k | k | k
    · rw [Int.sign_eq_neg_one_of_neg k]
      have e1 : ((p.num.natAbs : Nat) : Int) = -p.num := by omega
      have e2 : ((p.num.natAbs : Nat) : Rat) = -(p.num : Rat) := by
        have h := congrArg (fun z : Int => (z : Rat)) e1
        rw [← Rat.intCast_natCast]
        simpa using h
      have e3 : ((-1 * (p.den : Int) : Int) : Rat) = -((p.den : Int) : Rat) := by simp
      rw [Rat.divInt_eq_div, Rat.mkRat_eq_div, e2, e3]
      grind
    · exact absurd k hn
    · rw [Int.sign_eq_one_of_pos k, Int.one_mul, ← Rat.divInt_ofNat]
      congr 1
      omega
  rw [e]
  refine fit_mk (by omega) ?_ hp.1
  rw [Int.natAbs_mul]
  have h1 : p.num.sign.natAbs = 1 := by
    rcases Int.lt_trichotomy p.num 0 with k | k | k
    · rw [Int.sign_eq_neg_one_of_neg k]; rfl
    · exact absurd k hn
    · rw [Int.sign_eq_one_of_pos k]; rfl
  rw [h1, Nat.one_mul, Int.natAbs_natCast]
  exact hp.2
theorem fit_div {a b : Nat} {p q : Rat} (hp : FitW a p) (hq : FitW b q) (h0 : q ≠ 0) : FitW (a + b) (p / q) := by
  rw [Rat.div_def]
  exact fit_mul hp (fit_inv hq h0)
theorem fit_cdR {a b : Nat} {p q r s : Rat} (hp : FitW a p) (hq : FitW a q) (hr : FitW b r) (hs : FitW b s) (h0 : ¬ (r = 0 ∧ s = 0)) : FitW (2 * a + 6 * b + 2) (cdR p q r s) ∧ FitW (2 * a + 6 * b + 2) (cdI p q r s) := by
  have h1 := fit_div (fit_add (fit_mul hp hr) (fit_mul hq hs)) (fit_add (fit_mul hr hr) (fit_mul hs hs)) (sq_sum h0)
  have h2 := fit_div (fit_sub (fit_mul hq hr) (fit_mul hp hs)) (fit_add (fit_mul hr hr) (fit_mul hs hs)) (sq_sum h0)
  exact ⟨fit_mono h1 (by omega), fit_mono h2 (by omega)⟩
end Go.Proofs.YtdpagdlmpajjkafGreatDoor

namespace Go.Proofs.YtdpagdlmpajjkafGreatDoor
open Go.RowKit
set_option linter.unusedVariables false
theorem sq_pos {r s : Rat} (h : ¬ (r = 0 ∧ s = 0)) : 0 < r * r + s * s := by
  have h1 := sq_nonneg r
  have h2 := sq_nonneg s
  have h3 := sq_sum h
  grind
theorem rf_parts (p q l D : Rat) (hD : D = (p + l) * (p + l) + q * q) (h0 : D ≠ 0) : rfR p q l * D = (p - l) * (p + l) + q * q ∧ rfI p q l * D = q * (p + l) - (p - l) * q := by
  unfold rfR rfI cdR cdI
  rw [← hD]
  constructor <;> grind
theorem rf_back (p q l D x y : Rat) (hD : D = (p + l) * (p + l) + q * q) (hx : x * D = (p - l) * (p + l) + q * q) (hy : y * D = q * (p + l) - (p - l) * q) :
    ((1 - x) * (1 - x) + -y * -y) * (D * D) = 4 * l * l * D ∧ ((1 + x) * (1 - x) + y * -y) * (D * D) = 4 * p * l * D ∧ (y * (1 - x) - (1 + x) * -y) * (D * D) = 4 * q * l * D := by
  refine ⟨?_, ?_, ?_⟩ <;> grind
theorem rf_over (p l D F G : Rat) (hl : l ≠ 0) (hD0 : D ≠ 0) (h1 : F * (D * D) = 4 * l * l * D) (h2 : G * (D * D) = 4 * p * l * D) : G / F * l = p := by
  have hE : F ≠ 0 := by
    intro e
    rw [e] at h1
    grind
  have h3 : G * l = p * F := by grind
  grind
theorem rf_disc (p q l D x y : Rat) (hp : 0 ≤ p) (hl : 0 < l) (hD : D = (p + l) * (p + l) + q * q) (hD0 : 0 < D) (hx : x * D = (p - l) * (p + l) + q * q) (hy : y * D = q * (p + l) - (p - l) * q) : x * x + y * y ≤ 1 := by
  have hne : D ≠ 0 := by grind
  have h0 : ((x * x + y * y) * D) * D = ((p - l) * (p - l) + q * q) * D := by grind
  have h1 : (x * x + y * y) * D = (p - l) * (p - l) + q * q := by grind
  have h2 : D - (x * x + y * y) * D = 4 * (p * l) := by grind
  have h3 : 0 ≤ p * l := Rat.mul_nonneg hp (Rat.le_of_lt hl)
  have h4 : (x * x + y * y) * D ≤ 1 * D := by grind
  exact Rat.le_of_mul_le_mul_right h4 hD0
theorem rf_all (p q l : Rat) (h : rfC p q l = 0) : 0 < l ∧ (0 ≤ p → rfR p q l * rfR p q l + rfI p q l * rfI p q l ≤ 1) ∧ enC (rfR p q l) (rfI p q l) l = 0 ∧ enR (rfR p q l) (rfI p q l) l = p ∧ enI (rfR p q l) (rfI p q l) l = q := by
  unfold rfC at h
  split at h
  · rename_i hl
    split at h
    · cases h
    · rename_i hn
      have hl0 : l ≠ 0 := by grind
      obtain ⟨D, hD⟩ : ∃ D, D = (p + l) * (p + l) + q * q := ⟨_, rfl⟩
      have hD0 : 0 < D := by rw [hD]; exact sq_pos hn
      have hDn : D ≠ 0 := by grind
      obtain ⟨h1, h2⟩ := rf_parts p q l D hD hDn
      generalize rfR p q l = x at h1 h2 ⊢
      generalize rfI p q l = y at h1 h2 ⊢
      obtain ⟨k1, k2, k3⟩ := rf_back p q l D x y hD h1 h2
      have hF : ¬ (x = 1 ∧ y = 0) := by
        rintro ⟨rfl, rfl⟩
        grind
      refine ⟨hl, fun hp => rf_disc p q l D x y hp hl hD hD0 h1 h2, ?_, ?_, ?_⟩
      · unfold enC
        rw [if_pos hl, if_neg hF]
      · unfold enR cdR
        exact rf_over p l D _ _ hl0 hDn k1 k2
      · unfold enI cdI
        exact rf_over q l D _ _ hl0 hDn k1 k3
  · cases h
theorem rf_fit {L : Nat} {p q l : Rat} (hp : FitW L p) (hq : FitW L q) (hl : FitW L l) (h : rfC p q l = 0) : FitW (16 * L + 10) (rfR p q l) ∧ FitW (16 * L + 10) (rfI p q l) := by
  unfold rfC at h
  split at h
  · split at h
    · cases h
    · rename_i hn
      have h1 := fit_cdR (a := L + L + 1) (b := L + L + 1) (fit_sub hp hl) (fit_mono hq (by omega)) (fit_add hp hl) (fit_mono hq (by omega)) hn
      exact ⟨fit_mono h1.1 (by omega), fit_mono h1.2 (by omega)⟩
  · cases h
theorem text_fit {s : ByteArray} {p : Rat} (hp : p = ofR s.data.toList) (hs : s.size ≤ 1048576) : FitW 131074 p := by
  rw [hp]
  have h : s.data.toList.length = s.size := Array.length_toList
  exact fit_mono (ofR_fit s.data.toList) (by omega)
theorem text_size {K : Nat} {x : Rat} (h : FitW K x) (hK : 0 < K) : (⟨(qtext x).toArray⟩ : ByteArray).size ≤ 20 * K + 2 := by
  have h2 := qtext_len (q := x) (L := K) h hK
  show ((qtext x).toArray).size ≤ _
  rw [List.size_toArray]
  exact h2
theorem text_of (x : Rat) : x = ofR (⟨(qtext x).toArray⟩ : ByteArray).data.toList := (ofR_qtext x).symm
end Go.Proofs.YtdpagdlmpajjkafGreatDoor
