/- gates: opposite, wrong. -/
import Derived.Test.YtidnhafllbckcaaGBase
namespace Go.Proofs.Ytidnhafllbckcaa
open Go.RowKit
set_option linter.unusedVariables false
set_option linter.unusedSimpArgs false

theorem opposite_at (v : Int) (w : World) (h1 : 0 ≤ v) (h2 : v ≤ 2) :
    Calls Try.prog 25 #[.int .i64 v] w fun e w' => e = .returned (.int .i64 (1 - v)) ∧ w' = w := by
  go_enter Try.func25, Try.ntmps25
  go_wp2
  go_ret
  exact ⟨rfl, rfl⟩

/-- What is wrong with a node alone. -/
def wrongW (k kd i : Int) (b : Bool) (len : Nat) : Int :=
  if kd = 1 then (if 0 < len then 6 else if i < 0 ∨ k ≤ i then 4 else 0)
  else if kd = 2 ∨ kd = 3 then (if len = 0 ∨ i ≠ 0 ∨ b = true then 6 else 0) else 3

set_option maxHeartbeats 2000000 in
theorem wrong_at (k kd i : Int) (b : Bool) (ao : Option Addr) (len cap : Nat) (w : World) :
    Calls Try.prog 26 #[.agg #[.int .i64 kd, .int .i64 i, .bool b, .slice ao len cap], .int .i64 k] w fun e w' => e = .returned (.int .i64 (wrongW k kd i b len)) ∧ w.grownBy w' none := by
  by_cases h1 : kd = 1
  · subst h1
    by_cases h2 : 0 < len
    · have e0 : wrongW k 1 i b len = 6 := by unfold wrongW; rw [if_pos rfl, if_pos h2]
      rw [e0]
      clear e0
      go_enter Try.func26, Try.ntmps26
      go_wp2
      go_ret
      exact ⟨rfl, gr_alloc (gr_refl _ _) _⟩
    · obtain rfl : len = 0 := by omega
      by_cases h3 : i < 0
      · have e0 : wrongW k 1 i b 0 = 4 := by unfold wrongW; rw [if_pos rfl, if_neg (by omega), if_pos (.inl h3)]
        rw [e0]
        clear e0
        go_enter Try.func26, Try.ntmps26
        go_wp2
        go_ret
        exact ⟨rfl, gr_alloc (gr_refl _ _) _⟩
      · have h3' : decide (i < 0) = false := by simpa using h3
        by_cases h4 : k ≤ i
        · have e0 : wrongW k 1 i b 0 = 4 := by unfold wrongW; rw [if_pos rfl, if_neg (by omega), if_pos (.inr h4)]
          rw [e0]
          clear e0
          go_enter Try.func26, Try.ntmps26
          go_wp2
          go_ret
          exact ⟨rfl, gr_alloc (gr_refl _ _) _⟩
        · have h4' : decide (k ≤ i) = false := by simpa using h4
          have e0 : wrongW k 1 i b 0 = 0 := by unfold wrongW; rw [if_pos rfl, if_neg (by omega), if_neg (by omega)]
          rw [e0]
          clear e0
          go_enter Try.func26, Try.ntmps26
          go_wp2
          go_ret
          exact ⟨rfl, gr_alloc (gr_refl _ _) _⟩
  · by_cases h2 : kd = 2 ∨ kd = 3
    · have e : wrongW k kd i b len = if len = 0 ∨ i ≠ 0 ∨ b = true then 6 else 0 := by unfold wrongW; rw [if_neg h1, if_pos h2]
      rw [e]
      have h1' := ne_beq h1
      by_cases hl : len = 0
      · subst hl
        rw [if_pos (.inl rfl)]
        clear e h1
        rcases h2 with rfl | rfl
        all_goals
          go_enter Try.func26, Try.ntmps26
          go_wp2
          go_ret
          exact ⟨rfl, gr_alloc (gr_refl _ _) _⟩
      · have hl' : ((len : Int) == 0) = false := ne_beq (by omega)
        by_cases hi : i = 0
        · subst hi
          cases b with
          | true =>
            rw [if_pos (.inr (.inr rfl))]
            clear e h1
            rcases h2 with rfl | rfl
            all_goals
              go_enter Try.func26, Try.ntmps26
              go_wp2
              go_ret
              exact ⟨rfl, gr_alloc (gr_refl _ _) _⟩
          | false =>
            rw [if_neg (by simp [hl])]
            clear e h1
            rcases h2 with rfl | rfl
            all_goals
              go_enter Try.func26, Try.ntmps26
              go_wp2
              go_ret
              exact ⟨rfl, gr_alloc (gr_refl _ _) _⟩
        · have hi' := ne_beq hi
          rw [if_pos (.inr (.inl hi))]
          clear e h1
          rcases h2 with rfl | rfl
          all_goals
            go_enter Try.func26, Try.ntmps26
            go_wp2
            go_ret
            exact ⟨rfl, gr_alloc (gr_refl _ _) _⟩
    · have e : wrongW k kd i b len = 3 := by unfold wrongW; rw [if_neg h1, if_neg h2]
      rw [e]
      have h1' := ne_beq h1
      have h2' := ne_beq (fun e => h2 (.inl e))
      have h3' := ne_beq (fun e => h2 (.inr e))
      clear h1 h2 e
      go_enter Try.func26, Try.ntmps26
      go_wp2
      go_ret
      exact ⟨rfl, gr_alloc (gr_refl _ _) _⟩
end Go.Proofs.Ytidnhafllbckcaa
