/- The reference: ReadQuantity of the empty text, and of one that is too long. -/
import Derived.Test.YtgdiepfknfnmjaaGreatDoorMRb
import Derived.Test.YtgdiepfknfnmjaaGreatDoorRRead2
import Derived.Test.YtgdiepfknfnmjaaGreatDoorMU3
namespace Go.Proofs.YtgdiepfknfnmjaaGreatDoor
open Go.RowKit
set_option linter.unusedVariables false
set_option linter.unusedSimpArgs false

/-- The cells of the text and of the fault. -/
theorem read_cells {s : ByteArray} {w W : World} (hW : W = (w.alloc (Obj.cells #[.string s] 9)).alloc (Obj.cells #[.int .i64 0, .int .i64 0] 26)) : ∀ wx, W.grownBy wx none → wx.cell? ⟨w.heap.size, 0, none⟩ = some (.string s) ∧ wx.cell? ⟨w.heap.size + 1, 0, none⟩ = some (.int .i64 0) ∧ wx.cell? ⟨w.heap.size + 1, 1, none⟩ = some (.int .i64 0) ∧ wx.frozen? ⟨w.heap.size + 1, 0, none⟩ = false ∧ wx.frozen? ⟨w.heap.size + 1, 1, none⟩ = false := by
  intro wx hg
  rw [hW] at hg
  have e1 : (w.alloc (Obj.cells #[.string s] 9)).heap.size = w.heap.size + 1 := by simp
  obtain ⟨a, b, c⟩ := flt_cells hg
  rw [e1] at a b c
  have e2 : wx.heap[w.heap.size]? = some (Obj.cells #[.string s] 9 (0, 0)) := by
    rw [(gr_none (gr_alloc (gr_refl _ none) _) hg).block w.heap.size (by simp) (by simp)]
    exact heap_alloc_new w _
  exact ⟨by simp [World.cell?, e2], a, b, c 0, c 1⟩

set_option maxHeartbeats 2000000 in
theorem read_long (s : ByteArray) (w : World) (h0 : 4000 < s.size) (h1 : s.size ≤ 9223372036854775807) :
    Calls Tryz.prog 7 #[.string s] w fun e w' => e = .returned (parV (parseR s.data.toList)) ∧ w.grownBy w' none := by
  have hR : parseR s.data.toList = ([], [], 2, 0) := by
    rw [parseR, if_pos (by rw [← Lib.size_eq]; exact h0)]
  rw [hR]
  obtain ⟨W, hW⟩ : ∃ W, W = (w.alloc (Obj.cells #[.string s] 9)).alloc (Obj.cells #[.int .i64 0, .int .i64 0] 26) := ⟨_, rfl⟩
  have GW : Hid (w.grownBy W none) := by rw [hW]; exact gr_alloc (gr_alloc (gr_refl _ _) _) _
  have SC := hide (read_cells hW)
  clear hR
  go_enter Tryz.func7, Tryz.ntmps7
  go_wp2_with fail
  rw [← hW]
  clear hW
  refine (rF_at 2 0 _).mono ?_
  rintro e w9 ⟨rfl, g9⟩
  obtain ⟨_, f0, f1, f2, f3⟩ := SC.out w9 g9
  have G9 := hide (gr_none GW.out g9)
  clear g9
  go_wp2
  refine bodyPost_ret (v := parV ([], [], 2, 0)) (by simp [results, Tryz.results7, go_sem, f0, f1, parV]) rfl ?_
  exact ⟨rfl, gr_set (gr_set G9.out _ _ (by simp)) _ _ (by simp)⟩

set_option maxHeartbeats 2000000 in
theorem read_empty (s : ByteArray) (w : World) (h0 : s.size = 0) :
    Calls Tryz.prog 7 #[.string s] w fun e w' => e = .returned (parV (parseR s.data.toList)) ∧ w.grownBy w' none := by
  have hnil : s.data.toList = [] := List.eq_nil_of_length_eq_zero (by rw [← Lib.size_eq]; exact h0)
  have hemp : s.toList.isEmpty = true := by rw [ByteArray.toList_eq, hnil]; rfl
  have hR : parseR s.data.toList = ([], [], 1, 0) := by
    rw [hnil]
    decide
  rw [hR]
  obtain ⟨W, hW⟩ : ∃ W, W = (w.alloc (Obj.cells #[.string s] 9)).alloc (Obj.cells #[.int .i64 0, .int .i64 0] 26) := ⟨_, rfl⟩
  have GW : Hid (w.grownBy W none) := by rw [hW]; exact gr_alloc (gr_alloc (gr_refl _ _) _) _
  have SC := hide (read_cells hW)
  obtain ⟨z0, _, _, _, _⟩ := SC.out W (gr_refl _ _)
  have HN := hide hnil
  clear hR hnil
  go_enter Tryz.func7, Tryz.ntmps7
  go_wp2_with fail
  rw [← hW]
  clear hW
  refine (rEnd_at s 0 w.heap.size W (by omega) (by omega) z0).mono ?_
  rintro e w1 ⟨rfl, hw1⟩
  rw [hw1, HN.out]
  clear hw1
  rw [show ((0 + runD (List.drop 0 ([] : List UInt8)) : Nat) : Int) = 0 from rfl]
  go_wp2_with fail
  refine (bad_at 0 _).mono ?_
  rintro e w9 ⟨rfl, g9⟩
  obtain ⟨_, f0, f1, f2, f3⟩ := SC.out w9 g9
  have G9 := hide (gr_none GW.out g9)
  clear g9
  rw [parV]
  go_wp2
  refine bodyPost_ret (v := parV ([], [], 1, 0)) (by simp [results, Tryz.results7, go_sem, f0, f1, parV]) rfl ?_
  exact ⟨rfl, gr_set (gr_set G9.out _ _ (by simp)) _ _ (by simp)⟩
end Go.Proofs.YtgdiepfknfnmjaaGreatDoor

namespace Go.Proofs.YtgdiepfknfnmjaaGreatDoor
open Go.RowKit

theorem read_at (s : ByteArray) (w : World) (hs : s.size ≤ 9223372036854775807) (hpm : PM w) (hum : UM w) :
    Calls Tryz.prog 7 #[.string s] w fun e w' => e = .returned (parV (parseR s.data.toList)) ∧ w.grownBy w' none := by
  by_cases h1 : 4000 < s.size
  · exact read_long s w h1 hs
  · by_cases h0 : s.size = 0
    · exact read_empty s w h0
    · exact read_some s w (by omega) (by omega) hpm hum
end Go.Proofs.YtgdiepfknfnmjaaGreatDoor

namespace Go.Proofs.YtgdiepfknfnmjaaGreatDoor
open Go.RowKit
set_option linter.unusedVariables false
set_option linter.unusedSimpArgs false

set_option maxHeartbeats 2000000 in
theorem unitsRead_any (s : ByteArray) (m : Int) (w : World) (hs : s.size ≤ 9223372036854775807) (hT : PTabs w m) (hpm : PM w) (hum : UM w) :
    Calls Tryz.prog 3 #[.string s] w fun e w' => e = .returned (.bool true) ∧ w.grownBy w' none := by
  have HT := hide hT
  have HP := hide hpm
  have HU := hide hum
  clear hT hpm hum
  go_enter Tryz.func3, Tryz.ntmps3
  go_wp2_with fail
  refine (speaks_at m _ HT.out).mono ?_
  rintro e w1 ⟨rfl, g1⟩
  have G1 := hide g1
  clear g1
  go_wp2_with fail
  refine (parse_at s m _ hs (HT.out.keep0 G1.out)).mono ?_
  rintro e w2 ⟨rfl, g2⟩
  have G2 := hide (gr_none G1.out g2)
  clear g2
  obtain ⟨q, u, c, a, hr⟩ : ∃ q u c a, parseR s.data.toList = (q, u, c, a) := ⟨_, _, _, _, rfl⟩
  have HR := hide hr
  rw [hr, parV]
  clear hr
  obtain ⟨W, hW⟩ : ∃ W, W = w2.alloc (Obj.cells #[.int .i64 c, .int .i64 a] 26) := ⟨_, rfl⟩
  have GW : Hid (w2.grownBy W none) := by rw [hW]; exact gr_alloc (gr_refl _ _) _
  have CE : Hid (∀ wx, W.grownBy wx none → wx.cell? ⟨w2.heap.size, 0, none⟩ = some (.int .i64 c) ∧ wx.cell? ⟨w2.heap.size, 1, none⟩ = some (.int .i64 a)) := by
    intro wx hg
    rw [hW] at hg
    obtain ⟨x, y, _⟩ := flt_cells hg
    exact ⟨x, y⟩
  go_wp2_with fail
  rw [← hW]
  clear hW
  refine (read_at s _ hs (HP.out.keep0 (gr_none G2.out GW.out)) (HU.out.keep0 (gr_none G2.out GW.out))).mono ?_
  rintro e w3 ⟨rfl, g3⟩
  have G3 := hide (gr_none (gr_none G2.out GW.out) g3)
  obtain ⟨c0, c1⟩ := CE.out w3 g3
  have hlt : w2.heap.size < w3.heap.size := by
    have := World.block_lt_of_cell? w3 _ c0
    exact this
  have hne : ¬ w2.heap.size = w3.heap.size := by omega
  have hne2 : ¬ w3.heap.size = w2.heap.size := by omega
  clear g3
  rw [HR.out, parV]
  go_wp2
  go_ret
  exact ⟨rfl, gr_alloc G3.out _⟩
end Go.Proofs.YtgdiepfknfnmjaaGreatDoor
