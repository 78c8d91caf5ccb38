/- voltaiclaw: sided. -/
import Derived.Test.YtklkpkkjakllfaaGreatDoorXTe
set_option linter.unusedVariables false
set_option linter.unusedSimpArgs false
set_option maxHeartbeats 8000000
set_option maxRecDepth 10000
namespace Go.Proofs.YtklkpkkjakllfaaGreatDoor
open Go.RowKit
theorem sided_at (w : World) (hml : MLen w) (ht : Tab10 w) : Calls Tryz.prog 4 #[] w fun e w' => e = .returned (.bool true) ∧ w.grownBy w' none := by
  have HM := hide hml
  have HT := hide ht
  clear hml ht
  go_enter Tryz.func4, Tryz.ntmps4
  go_wp2_with fail
  obtain ⟨W1, hW1⟩ : ∃ W1, W1 = w.alloc (Obj.cells #[.string ⟨#[49]⟩, .string ⟨#[48]⟩, .string ⟨#[49]⟩] 24) := ⟨_, rfl⟩
  have G1 : Hid (w.grownBy W1 none) := by rw [hW1]; exact gr_alloc (gr_refl _ _) _
  have R1 : Hid (RowG sv W1 (.slice (some ⟨w.heap.size, 0, none⟩) 3 3) ls1) := by rw [hW1]; exact rowG_three w _ _ _ _
  rw [← hW1]
  clear hW1
  refine (count1_at _ W1 R1.out (HM.out.keep0 G1.out)).mono ?_
  rintro e w2 ⟨rfl, g2⟩
  have G2 := hide (gr_none G1.out g2)
  clear g2
  go_wp2_with fail
  obtain ⟨W3, hW3⟩ : ∃ W3, W3 = w2.alloc (Obj.cells #[.string ⟨#[56]⟩, .string ⟨#[50]⟩, .string ⟨#[49]⟩, .string ⟨#[49]⟩] 24) := ⟨_, rfl⟩
  have G3 : Hid (w.grownBy W3 none) := by rw [hW3]; exact gr_alloc G2.out _
  have R3 : Hid (RowG sv W3 (.slice (some ⟨w2.heap.size, 0, none⟩) 4 4) ls2) := by rw [hW3]; exact rowG_four w2 _ _ _ _ _
  rw [← hW3]
  clear hW3
  refine (count2_at _ W3 R3.out (HM.out.keep0 G3.out)).mono ?_
  rintro e w4 ⟨rfl, g4⟩
  have G4 := hide (gr_none G3.out g4)
  clear g4
  go_wp2_with fail
  obtain ⟨W5, hW5⟩ : ∃ W5, W5 = w4.alloc (Obj.cells #[.string ⟨#[56]⟩, .string ⟨#[50]⟩, .string ⟨#[49]⟩, .string ⟨#[49]⟩] 24) := ⟨_, rfl⟩
  have G5 : Hid (w.grownBy W5 none) := by rw [hW5]; exact gr_alloc G4.out _
  have R5 : Hid (RowG sv W5 (.slice (some ⟨w4.heap.size, 0, none⟩) 4 4) ls2) := by rw [hW5]; exact rowG_four w4 _ _ _ _ _
  rw [← hW5]
  clear hW5
  refine (routh2_at _ W5 R5.out (HM.out.keep0 G5.out) (HT.out.keep0 G5.out)).mono ?_
  rintro e w6 ⟨v6, rfl, r6, g6⟩
  have R6 := hide r6
  have G6 := hide (gr_none G5.out g6)
  obtain ⟨ao, cap, rfl, _, _, _⟩ := r6
  clear g6
  go_wp2_with fail
  refine (equalQ_at _ _ ls3 ls3 _ (R6.out.keep (gr_alloc (gr_refl _ _) _)) (rowG_four w6 _ _ _ _ _) (by decide) (by decide)).mono ?_
  rintro e w7 ⟨rfl, g7⟩
  rw [decide_eq_true rfl]
  have G7 := hide (gr_none G6.out (gr_none (gr_alloc (gr_refl w6 none) _) g7))
  clear g7
  go_wp2
  go_ret
  exact ⟨rfl, G7.out⟩
end Go.Proofs.YtklkpkkjakllfaaGreatDoor
