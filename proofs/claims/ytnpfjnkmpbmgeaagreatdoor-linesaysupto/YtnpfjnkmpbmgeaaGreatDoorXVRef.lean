/- The reference's numbers as the laws read them. -/
import Derived.Test.YtnpfjnkmpbmgeaaGreatDoorXBg
import Derived.Test.YtnpfjnkmpbmgeaaGreatDoorXBi
import Derived.Test.YtnpfjnkmpbmgeaaGreatDoorXRMulX
import Derived.Test.YtnpfjnkmpbmgeaaGreatDoorXRQuoX
import Derived.Test.YtnpfjnkmpbmgeaaGreatDoorXRCmpX
import Derived.Test.YtnpfjnkmpbmgeaaGreatDoorXFg
import Derived.Test.YtnpfjnkmpbmgeaaGreatDoorXZa
namespace Go.Proofs.YtnpfjnkmpbmgeaaGreatDoor
open Go.RowKit
set_option linter.unusedVariables false
set_option linter.unusedSimpArgs false
theorem ten_words (n : Nat) : 10 ^ n ≤ 4294967296 ^ (n / 8 + 1) := by
  have h1 : 10 ^ n ≤ 16 ^ n := Nat.pow_le_pow_left (by decide) n
  have h2 : 16 ^ n ≤ 16 ^ (8 * (n / 8 + 1)) := Nat.pow_le_pow_right (by decide) (by omega)
  have h3 : 16 ^ (8 * (n / 8 + 1)) = 4294967296 ^ (n / 8 + 1) := by rw [Nat.pow_mul]
  omega
open Go.RowKit in
theorem ofR_fit (l : List UInt8) : FitW (l.length / 8 + 2) (ofR l) := by
  have hpow : ∀ k, k ≤ l.length + 1 → (10 : Nat) ^ k ≤ 4294967296 ^ (l.length / 8 + 2) := fun k hk =>
    Nat.le_trans (ten_words k) (Nat.pow_le_pow_right (by decide) (by omega))
  have hone : 1 < (4294967296 : Nat) ^ (l.length / 8 + 2) := Nat.lt_of_lt_of_le (by decide : 1 < 4294967296 ^ 1) (Nat.pow_le_pow_right (by decide) (by omega))
  have hz : FitW (l.length / 8 + 2) 0 := ⟨by show 0 < _; omega, by show 1 < _; exact hone⟩
  unfold ofR
  split
  · rename_i h
    simp only [Bool.and_eq_true] at h
    obtain ⟨h1, h2⟩ := h
    have digits : ∀ m : List UInt8, allD m = true → ∀ c ∈ m, isD c = true := by
      intro m hm
      unfold allD at hm
      simp only [Bool.and_eq_true, List.all_eq_true] at hm
      exact hm.2
    have d1 := dec_lt _ (digits _ h1)
    have d2 := dec_lt _ (digits _ h2)
    have l1 := (cut_le (Lib.trimPrefix l [45]) [47]).1
    have l2 : (downOf (Lib.trimPrefix l [45])).length ≤ l.length + 1 := by
      unfold downOf
      have := (cut_le (Lib.trimPrefix l [45]) [47]).2
      have := trimPrefix_le l [45]
      split
      · omega
      · simp
    have l3 := trimPrefix_le l [45]
    have p1 := hpow _ (Nat.le_trans l1 (by omega))
    have p2 := hpow _ l2
    by_cases hd : decL (downOf (Lib.trimPrefix l [45])) = 0
    · rw [hd, Rat.mkRat_zero]
      exact hz
    · refine ⟨?_, ?_⟩
      · unfold rN
        rw [Rat.num_mkRat, if_neg hd]
        refine Nat.lt_of_le_of_lt (Int.natAbs_ediv_le_natAbs _ _) ?_
        have e : (sgq (Lib.hasPrefix l [45]) (decL (Lib.cut (Lib.trimPrefix l [45]) [47]).1)).natAbs = decL (Lib.cut (Lib.trimPrefix l [45]) [47]).1 := by
          unfold sgq
          split <;> simp
        rw [e]
        omega
      · rw [Rat.den_mkRat, if_neg hd]
        exact Nat.lt_of_le_of_lt (Nat.div_le_self _ _) (by omega)
  · exact hz
theorem IntAt.tight {w : World} {b o L K : Nat} {z : Int} (h : IntAt w b o z L) (hz : z.natAbs < 4294967296 ^ K) : IntAt w b o z K := by
  obtain ⟨neg, v, h1, h2, h3, h4⟩ := h
  exact ⟨neg, v, h1, h2.tight hz, h3, h4⟩
def RV (w : World) (b : Nat) (q : Rat) (L : Nat) : Prop := RQ w b q L ∨ (q = 0 ∧ RNil w b L)
theorem RQ.v {w : World} {b : Nat} {q : Rat} {L : Nat} (h : RQ w b q L) : RV w b q L := .inl h
theorem RV.keep0 {w w' : World} {b L : Nat} {q : Rat} (h : RV w b q L) (hg : w.grownBy w' none) : RV w' b q L := by
  rcases h with h | ⟨e, h⟩
  · exact .inl (h.keep0 hg)
  · exact .inr ⟨e, h.keep0 hg⟩
theorem RV.mono {w : World} {b L L' : Nat} {q : Rat} (h : RV w b q L) (hl : L ≤ L') : RV w b q L' := by
  rcases h with h | ⟨e, h⟩
  · exact .inl (h.mono hl)
  · exact .inr ⟨e, h.1.mono hl, h.2.mono hl⟩
theorem RV.x {w : World} {b L : Nat} {q : Rat} (h : RV w b q L) (hL : 2 ≤ L) : RX w b q L := by
  rcases h with h | ⟨rfl, h⟩
  · exact h.x
  · exact h.x hL
theorem RV.tight {w : World} {b L K : Nat} {q : Rat} (h : RV w b q L) (hf : FitW K q) : RV w b q K := by
  rcases h with h | ⟨rfl, h⟩
  · exact .inl ⟨h.1.tight hf.1, h.2.1.tight hf.2, h.2.2⟩
  · exact .inr ⟨rfl, h.1.tight hf.1, h.2.tight hf.1⟩
theorem rOfV_at (s : ByteArray) (q : Rat) (m : Int) (L : Nat) (w : World) (hq : q = ofR s.data.toList) (hs : s.size ≤ 1000000000) (hf : FitW L q) (hml : w.cell? ⟨0, 0, none⟩ = some (.int .i64 m)) :
    Calls Tryz.prog 9 #[.string s] w fun e w' => ∃ b, e = .returned (.pointer (some ⟨b, 0, none⟩)) ∧ RV w' b q L ∧ w.grownBy w' none := by
  refine (rOf_at s m w hs hml).mono ?_
  rintro e w' ⟨b, rfl, h1, h2⟩
  rw [← hq] at h2
  have h3 : RV w' b q (3 * s.size + 8) := h2
  exact ⟨b, rfl, h3.tight hf, h1⟩
theorem sgn_sign (z : Int) : sgn z = z.sign := by
  unfold sgn
  rcases Int.lt_trichotomy z 0 with h | h | h
  · rw [if_pos h, Int.sign_eq_neg_one_of_neg h]
  · subst h; rfl
  · rw [if_neg (by omega), if_pos h, Int.sign_eq_one_of_pos h]
theorem rSignV_at (b : Nat) (q : Rat) (L : Nat) (w : World) (h : RV w b q L) :
    Calls Tryz.prog 24 #[.pointer (some ⟨b, 0, none⟩)] w fun e w' => e = .returned (.int .i64 q.num.sign) ∧ w' = w := by
  rcases h with h | ⟨e, h⟩
  · refine (ratSign_at b q.num L w h.1).mono ?_
    rintro e w' ⟨rfl, rfl⟩
    exact ⟨by rw [sgn_sign], rfl⟩
  · refine (ratSign_at b 0 L w h.1).mono ?_
    rintro e' w' ⟨rfl, rfl⟩
    exact ⟨by rw [e]; rfl, rfl⟩
theorem rTV_at (b : Nat) (q : Rat) (L : Nat) (w : World) (h : RV w b q L) (hL : L ≤ 100000000000) :
    Calls Tryz.prog 55 #[.pointer (some ⟨b, 0, none⟩)] w fun e w' => e = .returned (.string ⟨(qtext q).toArray⟩) ∧ w.grownBy w' none := by
  rcases h with h | ⟨rfl, h⟩
  · exact rT_at b q L w h hL
  · exact rT_nil b L w h hL
end Go.Proofs.YtnpfjnkmpbmgeaaGreatDoor
