/- line: what Bounce tells; wrong calls of it. -/
import Derived.Test.YtnpfjnkmpbmgeaaGreatDoorXVRefl
import Derived.Test.YtnpfjnkmpbmgeaaGreatDoorXVb
import Derived.Test.YtnpfjnkmpbmgeaaGreatDoorXDivG
import Derived.Deep.Light
import Derived.Test.YtnpfjnkmpbmgeaaGreatDoorXZc
namespace Go.Proofs.YtnpfjnkmpbmgeaaGreatDoor
open Go.RowKit
set_option linter.unusedVariables false
set_option linter.unusedSimpArgs false
def bo (W f g : Rat) : Nat → Rat
  | 0 => W
  | 1 => 0 * g + f
  | n + 2 => bo W f g n * g + f
def boP (W f g : Rat) : Nat → Rat
  | 0 => 0
  | n + 1 => bo W f g n
theorem bo_succ (W f g : Rat) : ∀ n, bo W f g (n + 1) = boP W f g n * g + f
  | 0 => rfl
  | _ + 1 => rfl
theorem sign_neg {q : Rat} : q.num.sign < 0 ↔ q < 0 := by
  have h : q.num < 0 ↔ q < 0 := by
    rw [Rat.lt_iff]
    simp
  rw [← h]
  rcases Int.lt_trichotomy q.num 0 with k | k | k
  · rw [Int.sign_eq_neg_one_of_neg k]
    exact ⟨fun _ => k, fun _ => by decide⟩
  · rw [k]
    decide
  · rw [Int.sign_eq_one_of_pos k]
    exact ⟨fun h => absurd h (by decide), fun h => by omega⟩
end Go.Proofs.YtnpfjnkmpbmgeaaGreatDoor

namespace Go.Proofs.YtnpfjnkmpbmgeaaGreatDoor
open Go.RowKit
set_option linter.unusedVariables false
set_option linter.unusedSimpArgs false
theorem gr_hit3 {w : World} {b i j k : Nat} {x y z : Value} : w.grownBy (((w.setCell ⟨b, i, none⟩ x).setCell ⟨b, j, none⟩ y).setCell ⟨b, k, none⟩ z) (some b) := by
  have h : ∀ (w : World) (i : Nat) (v : Value), w.grownBy (w.setCell ⟨b, i, none⟩ v) (some b) := fun w i v => ⟨rfl, rfl, rfl, by simp, fun q _ hr => heap_setCell_other _ _ _ _ (fun e => hr (by rw [e]))⟩
  exact gr_trans (gr_trans (h _ _ _) (h _ _ _) (fun _ _ e => e) (fun _ _ e => e)) (h _ _ _) (fun _ _ e => e) (fun _ _ e => e)
theorem OwnT.keepB {w w' : World} {g : Nat} {v : Value} {xs : List ByteArray} (h : OwnT w (g + 1) v xs) (hg : w.grownBy w' (some g)) : OwnT w' (g + 1) v xs :=
  ⟨h.1.keepB hg (Nat.lt_succ_self g), fun k ek => (h.2 k ek).keep (h.1.fresh k ek).2 hg (fun e => by have := (h.1.fresh k ek).1; have := Option.some.inj e; omega)⟩
def BncR (w0 : World) (hb : Nat) (W f g : Rat) (B k : Nat) (ov iv : Value) (wr : World) : Prop :=
  ∃ i : Nat, i ≤ k ∧ iv = .int .i64 (i : Nat) ∧ OwnT wr (hb + 1) ov (textsL (bo W f g) (i + 1)) ∧ w0.grownBy wr none ∧
    ∃ c0 c1 c2 c3 c4 c5, BoxC wr hb #[c0, c1, c2, c3, c4, c5] ∧ FQ wr (.agg #[c0, c1, c2]) (if i % 2 = 0 then bo W f g i else boP W f g i) B ∧ FQ wr (.agg #[c3, c4, c5]) (if i % 2 = 0 then boP W f g i else bo W f g i) B
theorem BncR.start {w0 wr : World} {hb B k : Nat} {W f g : Rat} {ov c0 c1 c2 c3 c4 c5 : Value} (ho : OwnT wr (hb + 1) ov [⟨(qtext W).toArray⟩]) (hg : w0.grownBy wr none) (hbx : BoxC wr hb #[c0, c1, c2, c3, c4, c5]) (q0 : FQ wr (.agg #[c0, c1, c2]) W B) (q1 : FQ wr (.agg #[c3, c4, c5]) 0 B) : BncR w0 hb W f g B k ov (.int .i64 0) wr := by
  refine ⟨0, Nat.zero_le _, rfl, ho, hg, c0, c1, c2, c3, c4, c5, hbx, ?_, ?_⟩
  · rw [if_pos rfl]; exact q0
  · rw [if_pos rfl]; exact q1
end Go.Proofs.YtnpfjnkmpbmgeaaGreatDoor
