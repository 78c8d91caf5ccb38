/- What GatesSay asks, as mathematics; the calls' answers in one form. -/
import Derived.Test.YtidnhafllbckcaaGCheckR
import Derived.Test.YtidnhafllbckcaaGOther2
import Derived.Test.YtidnhafllbckcaaGSame
import Derived.Test.YtidnhafllbckcaaGRef
import Derived.Test.YtidnhafllbckcaaGClose
namespace Go.Proofs.Ytidnhafllbckcaa
open Go.RowKit
set_option linter.unusedVariables false
set_option linter.unusedSimpArgs false

theorem table_code (n : Nat) (t : Ex n) (k : Int) : (tableE n t k).2 = checkE n t k := by
  unfold tableE
  split
  · rename_i h; exact h.symm
  · rfl

/-- Dual's answer, in one form. -/
theorem dual_uni {w w' : World} {n : Nat} {t : Ex n} {k : Int} {e : Ending} (h : DualE w n t k e w') : ∃ (ak ai : Int) (ab : Bool) (aao : Option Addr) (alen acap : Nat), e = .returned (.tuple #[.agg #[.int .i64 ak, .int .i64 ai, .bool ab, .slice aao alen acap], .int .i64 (checkE n t k)]) ∧ w.grownBy w' none ∧
    (checkE n t k ≠ 0 → ak = 0 ∧ ai = 0 ∧ ab = false ∧ aao = none ∧ alen = 0 ∧ acap = 0) ∧ (checkE n t k = 0 → WayC w' n (.int .i64 ak) (.int .i64 ai) (.bool ab) (.slice aao alen acap) (dualE n t)) := by
  rcases h with ⟨hc, rfl, g⟩ | ⟨hc, c0, c1, c2, c3, rfl, hw, g⟩
  · exact ⟨0, 0, false, none, 0, 0, rfl, g, fun _ => ⟨rfl, rfl, rfl, rfl, rfl, rfl⟩, fun h => absurd h hc⟩
  · obtain ⟨ak, ai, ab, aao, alen, acap, rfl, rfl, rfl, rfl⟩ := hw.cells
    exact ⟨ak, ai, ab, aao, alen, acap, by rw [hc], g, fun h => absurd hc h, fun _ => hw⟩

/-- Risks' answer, in one form. -/
theorem risk_uni {w w' : World} {n : Nat} {t : Ex n} {k : Int} {e : Ending} (h : RiskE w n t k e w') : ∃ (ro : Option Addr) (rl rc : Nat), e = .returned (.tuple #[.slice ro rl rc, .int .i64 (checkE n t k)]) ∧ w.grownBy w' none ∧
    (checkE n t k ≠ 0 → rl = 0) ∧ (checkE n t k = 0 → PrR w' (.slice ro rl rc) (risksL n t k.toNat (2 ^ k.toNat))) := by
  rcases h with ⟨hc, rfl, g⟩ | ⟨hc, v, rfl, hp, g⟩
  · exact ⟨none, 0, 0, rfl, g, fun _ => rfl, fun h => absurd h hc⟩
  · have hp2 := hp
    obtain ⟨ro, rc, rfl, _⟩ := hp
    exact ⟨ro, _, rc, by rw [hc], g, fun h => absurd hc h, fun _ => hp2⟩

/-- What is wrong with the inputs, up to one. -/
def badN (xs : List Int) (b0 : Int) (m : Nat) : Int := if b0 = 0 ∧ ((xs.take m).any fun y => decide (y < 0) || decide (2 < y)) = true then 5 else b0

theorem badN_zero (xs : List Int) (b0 : Int) : badN xs b0 0 = b0 := by simp [badN]
theorem badN_off {xs : List Int} {b0 : Int} (h : b0 ≠ 0) (m : Nat) : badN xs b0 m = b0 := by unfold badN; rw [if_neg (fun e => h e.1)]
theorem badN_step (xs : List Int) (m : Nat) (h : m < xs.length) : badN xs 0 (m + 1) = if badN xs 0 m = 0 ∧ (xs[m] < 0 ∨ 2 < xs[m]) then 5 else badN xs 0 m := by
  unfold badN
  rw [List.take_succ_eq_append_getElem h, List.any_append]
  by_cases h1 : ((xs.take m).any fun y => decide (y < 0) || decide (2 < y)) = true
  · simp [h1]
  · by_cases h2 : xs[m] < 0 ∨ 2 < xs[m]
    · simp [h1, h2]
    · simp [h1, h2]

theorem closed_bad (n : Nat) (t : Ex n) (xs : List Int) (B : Int) (hB : B = badN xs (checkE n t xs.length) xs.length) : closedE n t xs = (if B = 0 then leadsE xs n t else 0, B) ∧ (B = 0 → Small xs ∧ checkE n t xs.length = 0) := by
  have hs : ((xs.take xs.length).any fun y => decide (y < 0) || decide (2 < y)) = true ↔ ¬ Small xs := by
    rw [List.take_length, List.any_eq_true]
    constructor
    · rintro ⟨y, hy, h⟩ hsm
      have := hsm y hy
      simp at h
      omega
    · intro h
      exact Classical.byContradiction fun hn => h fun y hy => by
        have : ¬ (decide (y < 0) || decide (2 < y)) = true := fun e => hn ⟨y, hy, e⟩
        simp at this
        omega
  unfold badN at hB
  unfold closedE
  by_cases hc : checkE n t xs.length = 0
  · rw [if_pos hc]
    by_cases hsm : Small xs
    · rw [if_neg (fun e => (hs.1 e.2) hsm), hc] at hB
      rw [if_pos ((small_iff xs).2 hsm), hB]
      exact ⟨rfl, fun _ => ⟨hsm, hc⟩⟩
    · rw [if_pos ⟨hc, hs.2 hsm⟩] at hB
      rw [if_neg (fun e => hsm ((small_iff xs).1 e)), hB]
      exact ⟨rfl, fun h => by simp at h⟩
  · rw [if_neg (fun e => hc e.1)] at hB
    rw [if_neg hc, hB, if_neg hc]
    exact ⟨rfl, fun h => absurd h hc⟩
end Go.Proofs.Ytidnhafllbckcaa
