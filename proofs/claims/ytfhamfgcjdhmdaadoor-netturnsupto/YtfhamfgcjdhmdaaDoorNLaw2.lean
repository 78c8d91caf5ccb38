/- The law's closed fact: looped. -/
import Derived.Test.YtfhamfgcjdhmdaaDoorNLaw1
namespace Go.Proofs.YtfhamfgcjdhmdaaDoor
open Go.RowKit
set_option linter.unusedVariables false

theorem tri_check : checkN 3 triPs = (0, 0) := by decide +kernel
theorem tri_good : Good ((3 : Nat) : Int) triPs 3 := by
  have := (good_of (nodes := 3) (ps := triPs) (by rw [tri_check])).1
  exact this
theorem tri_tree : treeOf (prs triPs) = [0, 1] := by decide +kernel
theorem tri_cuts : cutsL (prs triPs) (treeOf (prs triPs)) = [[1, 0, -1], [0, 1, -1]] := by decide +kernel
theorem tri_loops : loopsUpto triPs.length (treeOf (prs triPs)) (cutsL (prs triPs) (treeOf (prs triPs))) triPs.length = [[1, 1, 1]] := by decide +kernel

theorem row_of {w : World} {v : Value} {T : List Nat} (h : RowG nv w v T) : RowG iv w v (T.map fun x : Nat => ((x : Nat) : Int)) := by
  obtain ⟨ao, cap, e, h1, h2, h3⟩ := h
  refine ⟨ao, cap, by simpa using e, by simpa using h1, h2, fun i hi => ?_⟩
  obtain ⟨b, off, e2, hb, c⟩ := h3 i (by simpa using hi)
  exact ⟨b, off, e2, hb, by simpa using c⟩

/-- A fault in its box, in a world that has grown since. -/
theorem box_two {w W : World} {t : TypeId} {u v : Value} (h : (w.alloc (Obj.cells #[u, v] t)).grownBy W none) : W.cell? ⟨w.heap.size, 0, none⟩ = some u := (res_two h).1

/-- A row of numbers that was just written down. -/
theorem new_row {w : World} {t : TypeId} {b : Nat} (xs : List Int) (hb : b = w.heap.size) : RArr iv t (w.alloc (Obj.cells (xs.map iv).toArray t)) b xs := by
  subst hb
  exact heap_alloc_new w _

theorem new_vals {w : World} {t : TypeId} {b : Nat} (vs : List Value) (hb : b = w.heap.size) : RArr id t (w.alloc (Obj.cells (vs.map id).toArray t)) b vs := by
  subst hb
  exact heap_alloc_new w _

theorem new_tab1 {w : World} {t1 t2 : TypeId} (r : List Int) {b1 b2 l : Nat} (hb1 : b1 = w.heap.size) (hb2 : b2 = w.heap.size + 1) (hl : l = r.length) (hm : r.length ≤ 100) :
    Rows2 ((w.alloc (Obj.cells (r.map iv).toArray t1)).alloc (Obj.cells #[.slice (some ⟨b1, 0, none⟩) l l] t2)) (.slice (some ⟨b2, 0, none⟩) 1 1) [r] := by
  subst hl
  refine ⟨[.slice (some ⟨b1, 0, none⟩) r.length r.length], (new_vals [.slice (some ⟨b1, 0, none⟩) r.length r.length] (by simp [hb2])).row (by unfold maxLen; simp), rfl, fun i hi hi' => ?_⟩
  have hi0 : i = 0 := by simp at hi; omega
  subst hi0
  exact ((new_row r hb1).keep0 (gr_alloc (gr_refl _ _) _)).row (by unfold maxLen; omega)

theorem new_tab2 {w : World} {t1 t2 t3 : TypeId} (r s : List Int) {b1 b2 b3 l k : Nat} (hb1 : b1 = w.heap.size) (hb2 : b2 = w.heap.size + 1) (hb3 : b3 = w.heap.size + 2) (hl : l = r.length) (hk : k = s.length) (hm : r.length ≤ 100) (hm2 : s.length ≤ 100) :
    Rows2 (((w.alloc (Obj.cells (r.map iv).toArray t1)).alloc (Obj.cells (s.map iv).toArray t2)).alloc (Obj.cells #[.slice (some ⟨b1, 0, none⟩) l l, .slice (some ⟨b2, 0, none⟩) k k] t3)) (.slice (some ⟨b3, 0, none⟩) 2 2) [r, s] := by
  subst hl hk
  refine ⟨[.slice (some ⟨b1, 0, none⟩) r.length r.length, .slice (some ⟨b2, 0, none⟩) s.length s.length], (new_vals [.slice (some ⟨b1, 0, none⟩) r.length r.length, .slice (some ⟨b2, 0, none⟩) s.length s.length] (by simp [hb3])).row (by unfold maxLen; simp), rfl, fun i hi hi' => ?_⟩
  match i, hi with
  | 0, _ => exact ((new_row r hb1).keep0 (gr_alloc (gr_alloc (gr_refl _ _) _) _)).row (by unfold maxLen; omega)
  | 1, _ => exact ((new_row s (by simp [hb2])).keep0 (gr_alloc (gr_refl _ _) _)).row (by unfold maxLen; omega)
  | i + 2, hi => simp at hi; omega

set_option maxHeartbeats 4000000 in
set_option maxRecDepth 10000 in
theorem looped_at (w : World) (hb : Base w) : Calls Tryd.prog 4 #[] w fun e w' => e = .returned (.bool true) ∧ w.grownBy w' none := by
  have HB := hide hb
  clear hb
  go_enter Tryd.func4, Tryd.ntmps4
  go_wp2_with fail
  refine (triangle_at _).mono ?_
  intro e w1 hT
  obtain ⟨p1, rfl, a1, a2⟩ := hT
  have A1 := hide a1
  have A2 := hide a2
  obtain ⟨po1, pc1, pe1, j1⟩ := a1
  subst pe1
  clear a2 j1
  go_wp2_with fail
  refine (tree_ok ((3 : Nat) : Int) _ triPs 3 _ (HB.out.keep A2.out) A1.out tri_good tri_check).mono ?_
  intro e w2 hE
  obtain ⟨tv, rfl, b1, b2⟩ := hE
  rw [tri_tree] at b1
  have B1 := hide b1
  have B2 := hide (gr_none A2.out b2)
  obtain ⟨to1, tc1, te1, j1⟩ := b1
  subst te1
  clear b2 j1 A1 A2
  go_wp2_with fail
  refine (triangle_at _).mono ?_
  intro e w3 hT
  obtain ⟨p2, rfl, c1, c2⟩ := hT
  have C1 := hide c1
  have C2 := hide c2
  have C3 := hide (gr_none (gr_alloc B2.out _) c2)
  obtain ⟨po2, pc2, pe2, j1⟩ := c1
  subst pe2
  clear c2 j1
  go_wp2_with fail
  refine (loops_ok ((3 : Nat) : Int) _ triPs 3 _ (HB.out.keep C3.out) C1.out tri_good tri_check).mono ?_
  intro e w4 hE
  obtain ⟨lv, rfl, d1, d2⟩ := hE
  rw [tri_loops] at d1
  have D1 := hide d1
  have D2 := hide (gr_none C3.out d2)
  have D3 := hide (gr_none C2.out d2)
  obtain ⟨lvals, ⟨lo, lc, le, j1⟩, j2, j3⟩ := d1
  subst le
  have hlv : lvals.length = 1 := j2
  rw [hlv]
  rw [hlv] at D1
  clear d2 j1 j2 j3 C1 C2 C3 hlv
  go_wp2_with fail
  refine (triangle_at _).mono ?_
  intro e w5 hT
  obtain ⟨p3, rfl, e1, e2⟩ := hT
  have E1 := hide e1
  have E2 := hide e2
  have E3 := hide (gr_none (gr_alloc D2.out _) e2)
  obtain ⟨po3, pc3, pe3, j1⟩ := e1
  subst pe3
  clear e2 j1
  go_wp2_with fail
  refine (cuts_ok ((3 : Nat) : Int) _ triPs 3 _ (HB.out.keep E3.out) E1.out tri_good tri_check).mono ?_
  intro e w6 hE
  obtain ⟨cv, rfl, f1, f2⟩ := hE
  rw [tri_cuts] at f1
  have F1 := hide f1
  have F2 := hide (gr_none E3.out f2)
  have F3 := hide (gr_none E2.out f2)
  have F4 := hide (gr_none D3.out (gr_none (gr_alloc (gr_refl _ _) _) F3.out))
  obtain ⟨cvals, ⟨co, cc, ce, j1⟩, j2, j3⟩ := f1
  subst ce
  have hcv : cvals.length = 2 := j2
  rw [hcv]
  rw [hcv] at F1
  clear f2 j1 j2 j3 E1 hcv
  have q2 := box_two F4.out
  have q4 := box_two F3.out
  have hs2 : w2.heap.size < w6.heap.size := by have := F4.out.size; simp at this; omega
  have hs4 : w4.heap.size < w6.heap.size := by have := F3.out.size; simp at this; omega
  have B6 : Hid (RowG nv w6 (.slice to1 2 tc1) [0, 1]) := B1.out.keep (gr_none (gr_alloc (gr_refl _ _) _) F4.out)
  have D6 : Hid (Rows2 w6 (.slice lo 1 lc) [[1, 1, 1]]) := D1.out.keep (gr_none (gr_alloc (gr_refl _ _) _) F3.out)
  clear B1 D1 D3 E2 F3 F4
  go_wp2_with fail
  refine (equal_at _ _ [0, 1] [0, 1] _ ((row_of B6.out).keep (gr_alloc (gr_alloc (gr_refl _ _) _) _)) ((new_row [0, 1] (by simp)).row (by unfold maxLen; simp))).mono ?_
  rintro e w7 ⟨rfl, q7, rfl⟩
  rw [beq_self_eq_true]
  go_wp2_with fail
  refine (tables_at _ _ [[1, 1, 1]] _ (D6.out.keep (gr_alloc (gr_alloc (gr_drewN (gr_alloc (gr_alloc (gr_refl _ _) _) _) _) _) _)) (new_tab1 [1, 1, 1] (by simp) (by simp) rfl (by simp))).mono ?_
  rintro e w8 ⟨rfl, q8, rfl⟩
  go_wp2_with fail
  refine (tables_at _ _ [[1, 0, -1], [0, 1, -1]] _ (F1.out.keep ?_) (new_tab2 [1, 0, -1] [0, 1, -1] (by simp) (by simp) (by simp) rfl rfl (by simp) (by simp))).mono ?_
  · exact gr_alloc (gr_alloc (gr_alloc (gr_drewN (gr_alloc (gr_alloc (gr_drewN (gr_alloc (gr_alloc (gr_refl _ _) _) _) _) _) _) _) _) _) _
  rintro e w9 ⟨rfl, q9, rfl⟩
  go_wp2
  go_ret
  refine ⟨rfl, ?_⟩
  exact gr_drewN (gr_alloc (gr_alloc (gr_alloc (gr_drewN (gr_alloc (gr_alloc (gr_drewN (gr_alloc (gr_alloc F2.out _) _) _) _) _) _) _) _) _) _
end Go.Proofs.YtfhamfgcjdhmdaaDoor
