/- The law's helpers: part, triangle, slices.Equal, Tables. -/
import Derived.Test.YtfhamfgcjdhmdaaGreatDoorMNc
namespace Go.Proofs.YtfhamfgcjdhmdaaGreatDoor
open Go.RowKit
set_option linter.unusedVariables false

/-- The triangle's parts. -/
def triPs : List Prt := [⟨1, 0, 1, 0, 0, ⟨#[49]⟩⟩, ⟨1, 1, 2, 0, 0, ⟨#[49]⟩⟩, ⟨1, 2, 0, 0, 0, ⟨#[49]⟩⟩]

set_option maxHeartbeats 1000000 in
set_option maxRecDepth 10000 in
theorem part_at (k a b : Int) (v : ByteArray) (w : World) :
    Calls Tryz.prog 155 #[.int .i64 k, .int .i64 a, .int .i64 b, .string v] w fun e w' => e = .returned (.agg #[.int .i64 k, .int .i64 a, .int .i64 b, .int .i64 0, .int .i64 0, .string v]) ∧ w.grownBy w' none := by
  go_enter Tryz.func155, Tryz.ntmps155
  go_wp2
  exact bodyPost_ret (v := .agg #[.int .i64 k, .int .i64 a, .int .i64 b, .int .i64 0, .int .i64 0, .string v]) (by simp [results, Tryz.results155, go_sem]) rfl ⟨rfl, gr_alloc (gr_refl _ _) _⟩

/-- What triangle answers. -/
def TriE (w : World) (e : Ending) (w' : World) : Prop := ∃ pv, e = .returned (.agg #[.int .i64 3, pv]) ∧ PartsAt w' pv triPs ∧ w.grownBy w' none

theorem gr_none4 {w w1 w2 w3 : World} (a : w.grownBy w1 none) (b : w1.grownBy w2 none) (c : w2.grownBy w3 none) : w.grownBy w3 none := gr_none (gr_none a b) c

set_option maxHeartbeats 1000000 in
set_option maxRecDepth 10000 in
theorem triangle_at (w : World) : Calls Tryz.prog 77 #[] w fun e w' => TriE w e w' := by
  go_enter Tryz.func77, Tryz.ntmps77
  go_wp2_with fail
  refine (part_at 1 0 1 ⟨#[49]⟩ _).mono ?_
  rintro e w1 ⟨rfl, p1⟩
  have P1 := hide p1
  clear p1
  go_wp2_with fail
  refine (part_at 1 1 2 ⟨#[49]⟩ _).mono ?_
  rintro e w2 ⟨rfl, p2⟩
  have P2 := hide (gr_none P1.out p2)
  clear p2
  go_wp2_with fail
  refine (part_at 1 2 0 ⟨#[49]⟩ _).mono ?_
  rintro e w3 ⟨rfl, p3⟩
  have P3 := hide (gr_none P2.out p3)
  have hrr : w3.cell? ⟨w.heap.size, 0, none⟩ = some (.int .i64 0) ∧ w3.cell? ⟨w.heap.size, 1, none⟩ = some (.slice none 0 0) ∧ (∀ i, w3.frozen? ⟨w.heap.size, i, none⟩ = false) := by
    have := res_two P3.out
    simpa using this
  obtain ⟨r0, r1, rf⟩ := hrr
  have rf0 := rf 0
  have rf1 := rf 1
  have hsz : w.heap.size < w3.heap.size := by have := P3.out.size; simp at this; omega
  clear p3 rf
  go_wp2
  refine bodyPost_ret (v := .agg #[.int .i64 3, .slice (some ⟨w3.heap.size, 0, none⟩) 3 3]) (by simp [results, Tryz.results77, go_sem, r0, r1, hsz]) rfl ?_
  refine ⟨_, rfl, ?_, gr_alloc (gr_set (gr_set (gr_none (gr_alloc (gr_refl _ _) _) P3.out) _ _ (by simp)) _ _ (by simp)) _⟩
  refine ⟨_, 3, rfl, by simp [triPs], by unfold maxLen; omega, ?_⟩
  intro i hi
  have hi3 : i < 3 := hi
  refine ⟨w3.heap.size, 0, rfl, by simp, ?_⟩
  match i, hi3 with
  | 0, _ => exact ⟨by go_simp; rfl, by go_simp; rfl, by go_simp; rfl, by go_simp; rfl, by go_simp; rfl, by go_simp; rfl, by show (1 : Nat) ≤ 600000000; omega⟩
  | 1, _ => exact ⟨by go_simp; rfl, by go_simp; rfl, by go_simp; rfl, by go_simp; rfl, by go_simp; rfl, by go_simp; rfl, by show (1 : Nat) ≤ 600000000; omega⟩
  | 2, _ => exact ⟨by go_simp; rfl, by go_simp; rfl, by go_simp; rfl, by go_simp; rfl, by go_simp; rfl, by go_simp; rfl, by show (1 : Nat) ≤ 600000000; omega⟩

/-- slices.Equal of whole numbers. -/
theorem equal_at (va vb : Value) (xs ys : List Int) (w : World) (ha : RowG iv w va xs) (hb : RowG iv w vb ys) :
    Calls Tryz.prog 28 #[va, vb] w fun e w' => e = .returned (.bool (xs == ys)) ∧ ∃ q, w' = w.drewN q := by
  obtain ⟨ao, ca, rfl, a1, a2, a3⟩ := ha
  obtain ⟨bo, cb, rfl, b1, b2, b3⟩ := hb
  unfold maxLen at a2 b2
  by_cases hl : xs.length = ys.length
  · by_cases h0 : xs.length = 0
    · have e1 : xs = [] := List.eq_nil_of_length_eq_zero h0
      have e2 : ys = [] := List.eq_nil_of_length_eq_zero (by omega)
      subst e1 e2
      refine (Tryz.slices_Equal_int_empty ao bo ca 0 cb w (by omega)).mono ?_
      rintro e w' ⟨rfl, rfl⟩
      exact ⟨rfl, 0, rfl⟩
    · obtain ⟨ab, ax, rfl, _, _⟩ := a3 0 (by omega)
      obtain ⟨bb, bx, rfl, _, _⟩ := b3 0 (by omega)
      refine (Tryz.slices_Equal_int ab ax xs.length ca bb bx ys.length cb xs ys w (Nat.le_refl _) (Nat.le_refl _) (by omega) (by omega) ?_ ?_).mono ?_
      · intro j hj
        obtain ⟨b', o', e', _, c'⟩ := a3 j hj
        simp only [Option.some.injEq, Addr.mk.injEq, and_true] at e'
        obtain ⟨rfl, rfl⟩ := e'
        rw [c']
        simp [List.getD, hj]
      · intro j hj
        obtain ⟨b', o', e', _, c'⟩ := b3 j hj
        simp only [Option.some.injEq, Addr.mk.injEq, and_true] at e'
        obtain ⟨rfl, rfl⟩ := e'
        rw [c']
        simp [List.getD, hj]
      · rintro e w' ⟨rfl, q, rfl⟩
        rw [List.take_of_length_le (Nat.le_refl _), List.take_of_length_le (Nat.le_refl _)]
        exact ⟨rfl, q, rfl⟩
  · refine (Tryz.slices_Equal_int_lens ao bo xs.length ca ys.length cb w hl).mono ?_
    rintro e w' ⟨rfl, rfl⟩
    refine ⟨?_, 0, rfl⟩
    have : (xs == ys) = false := by
      rw [beq_eq_false_iff_ne]
      intro e
      exact hl (by rw [e])
    rw [this]

def EqfR (w : World) (xss : List (List Int)) (v : Value) (wr : World) : Prop := ∃ i q : Nat, i ≤ xss.length ∧ v = .int .i64 i ∧ wr = w.drewN q

set_option maxHeartbeats 2000000 in
set_option maxRecDepth 10000 in
/-- slices.EqualFunc with slices.Equal, of lists that are the same. -/
theorem equalFunc_at (va vb : Value) (xss : List (List Int)) (w : World) (ha : Rows2 w va xss) (hb : Rows2 w vb xss) :
    Calls Tryz.prog 94 #[va, vb, .func (.func 28) #[] #[]] w fun e w' => e = .returned (.bool true) ∧ ∃ q, w' = w.drewN q := by
  obtain ⟨avs, ⟨ao, ca, rfl, a1, a2, a3⟩, a4, a5⟩ := ha
  obtain ⟨bs, ⟨bo, cb, rfl, b1, b2, b3⟩, b4, b5⟩ := hb
  unfold maxLen at a2 b2
  have HA3 := hide a3
  have HA5 := hide a5
  have HB3 := hide b3
  have HB5 := hide b5
  have HA4 := hide a4
  have HB4 := hide b4
  have hne : (((avs.length : Nat) : Int) != ((bs.length : Nat) : Int)) = false := by rw [bne_eq_false_iff_eq]; omega
  have hab1 : avs.length ≤ bs.length := by omega
  have hab2 : bs.length ≤ avs.length := by omega
  have hax : avs.length ≤ xss.length := by omega
  have hxa : xss.length ≤ avs.length := by omega
  clear a3 a4 a5 b3 b4 b5
  go_enter Tryz.func94, Tryz.ntmps94
  go_wp2
  go_loopw [17] (fun v wr => EqfR w xss v wr) (fun v _ => xss.length - (intOf v).toNat)
  case atStart => exact ⟨0, 0, by omega, rfl, rfl⟩
  case round =>
    obtain ⟨i, q, hi, rfl, rfl⟩ := hrel
    by_cases hlt : i < xss.length
    · obtain ⟨ab, ax, rfl, _, ac⟩ := HA3.out i (by omega)
      obtain ⟨bb, bx, rfl, _, bc⟩ := HB3.out i (by omega)
      have ra := HA5.out i (by omega) hlt
      have rb := HB5.out i (by omega) hlt
      simp only [id] at ac bc
      obtain ⟨o1, c1, e1, r1⟩ := ra
      obtain ⟨o2, c2, e2, r2⟩ := rb
      rw [e1] at ac
      rw [e2] at bc
      have RA : Hid (RowG iv w (.slice o1 xss[i].length c1) xss[i]) := ⟨o1, c1, rfl, r1⟩
      have RB : Hid (RowG iv w (.slice o2 xss[i].length c2) xss[i]) := ⟨o2, c2, rfl, r2⟩
      clear e1 e2 r1 r2
      go_wp2_with fail
      refine (equal_at _ _ xss[i] xss[i] _ (RA.out.keep (gr_d _)) (RB.out.keep (gr_d _))).mono ?_
      rintro e w3 ⟨rfl, q2, rfl⟩
      rw [beq_self_eq_true]
      go_wp2
      go_roundw
      case rel => exact ⟨i + 1, q + q2, by omega, by go_num, by first | rfl | rw [World.drewN_drewN]⟩
      case measure => simp [intOf]; omega
    · go_wp2
      go_ret
      exact ⟨rfl, q, rfl⟩

set_option maxHeartbeats 1000000 in
theorem tables_at (va vb : Value) (xss : List (List Int)) (w : World) (ha : Rows2 w va xss) (hb : Rows2 w vb xss) :
    Calls Tryz.prog 31 #[va, vb] w fun e w' => e = .returned (.bool true) ∧ ∃ q, w' = w.drewN q := by
  have HA := hide ha
  have HB := hide hb
  obtain ⟨avs, ⟨ao, ca, rfl, j1⟩, j2⟩ := ha
  obtain ⟨bs, ⟨bo, cb, rfl, j3⟩, j4⟩ := hb
  clear j1 j2 j3 j4
  go_enter Tryz.func31, Tryz.ntmps31
  go_wp2_with fail
  refine (equalFunc_at _ _ xss _ HA.out HB.out).mono ?_
  rintro e w1 ⟨rfl, q, rfl⟩
  go_wp2
  go_ret
  exact ⟨rfl, q, rfl⟩
end Go.Proofs.YtfhamfgcjdhmdaaGreatDoor

namespace Go.Proofs.YtfhamfgcjdhmdaaGreatDoor
open Go.RowKit
set_option linter.unusedVariables false

theorem tri_check : checkN 3 triPs = (0, 0) := by decide +kernel
theorem tri_good : Good ((3 : Nat) : Int) triPs 3 := by
  have := (good_of (nodes := 3) (ps := triPs) (by rw [tri_check])).1
  exact this
theorem tri_tree : treeOf (prs triPs) = [0, 1] := by decide +kernel
theorem tri_cuts : cutsL (prs triPs) (treeOf (prs triPs)) = [[1, 0, -1], [0, 1, -1]] := by decide +kernel
theorem tri_loops : loopsUpto triPs.length (treeOf (prs triPs)) (cutsL (prs triPs) (treeOf (prs triPs))) triPs.length = [[1, 1, 1]] := by decide +kernel

theorem row_of {w : World} {v : Value} {T : List Nat} (h : RowG nv w v T) : RowG iv w v (T.map fun x : Nat => ((x : Nat) : Int)) := by
  obtain ⟨ao, cap, e, h1, h2, h3⟩ := h
  refine ⟨ao, cap, by simpa using e, by simpa using h1, h2, fun i hi => ?_⟩
  obtain ⟨b, off, e2, hb, c⟩ := h3 i (by simpa using hi)
  exact ⟨b, off, e2, hb, by simpa using c⟩

/-- A fault in its box, in a world that has grown since. -/
theorem box_two {w W : World} {t : TypeId} {u v : Value} (h : (w.alloc (Obj.cells #[u, v] t)).grownBy W none) : W.cell? ⟨w.heap.size, 0, none⟩ = some u := (res_two h).1

/-- A row of numbers that was just written down. -/
theorem new_row {w : World} {t : TypeId} {b : Nat} (xs : List Int) (hb : b = w.heap.size) : RArr iv t (w.alloc (Obj.cells (xs.map iv).toArray t)) b xs := by
  subst hb
  exact heap_alloc_new w _

theorem new_vals {w : World} {t : TypeId} {b : Nat} (vs : List Value) (hb : b = w.heap.size) : RArr id t (w.alloc (Obj.cells (vs.map id).toArray t)) b vs := by
  subst hb
  exact heap_alloc_new w _

theorem new_tab1 {w : World} {t1 t2 : TypeId} (r : List Int) {b1 b2 l : Nat} (hb1 : b1 = w.heap.size) (hb2 : b2 = w.heap.size + 1) (hl : l = r.length) (hm : r.length ≤ 100) :
    Rows2 ((w.alloc (Obj.cells (r.map iv).toArray t1)).alloc (Obj.cells #[.slice (some ⟨b1, 0, none⟩) l l] t2)) (.slice (some ⟨b2, 0, none⟩) 1 1) [r] := by
  subst hl
  refine ⟨[.slice (some ⟨b1, 0, none⟩) r.length r.length], (new_vals [.slice (some ⟨b1, 0, none⟩) r.length r.length] (by simp [hb2])).row (by unfold maxLen; simp), rfl, fun i hi hi' => ?_⟩
  have hi0 : i = 0 := by simp at hi; omega
  subst hi0
  exact ((new_row r hb1).keep0 (gr_alloc (gr_refl _ _) _)).row (by unfold maxLen; omega)

theorem new_tab2 {w : World} {t1 t2 t3 : TypeId} (r s : List Int) {b1 b2 b3 l k : Nat} (hb1 : b1 = w.heap.size) (hb2 : b2 = w.heap.size + 1) (hb3 : b3 = w.heap.size + 2) (hl : l = r.length) (hk : k = s.length) (hm : r.length ≤ 100) (hm2 : s.length ≤ 100) :
    Rows2 (((w.alloc (Obj.cells (r.map iv).toArray t1)).alloc (Obj.cells (s.map iv).toArray t2)).alloc (Obj.cells #[.slice (some ⟨b1, 0, none⟩) l l, .slice (some ⟨b2, 0, none⟩) k k] t3)) (.slice (some ⟨b3, 0, none⟩) 2 2) [r, s] := by
  subst hl hk
  refine ⟨[.slice (some ⟨b1, 0, none⟩) r.length r.length, .slice (some ⟨b2, 0, none⟩) s.length s.length], (new_vals [.slice (some ⟨b1, 0, none⟩) r.length r.length, .slice (some ⟨b2, 0, none⟩) s.length s.length] (by simp [hb3])).row (by unfold maxLen; simp), rfl, fun i hi hi' => ?_⟩
  match i, hi with
  | 0, _ => exact ((new_row r hb1).keep0 (gr_alloc (gr_alloc (gr_refl _ _) _) _)).row (by unfold maxLen; omega)
  | 1, _ => exact ((new_row s (by simp [hb2])).keep0 (gr_alloc (gr_refl _ _) _)).row (by unfold maxLen; omega)
  | i + 2, hi => simp at hi; omega

set_option maxHeartbeats 4000000 in
set_option maxRecDepth 10000 in
theorem looped_at (w : World) (hb : Base w) : Calls Tryz.prog 14 #[] w fun e w' => e = .returned (.bool true) ∧ w.grownBy w' none := by
  have HB := hide hb
  clear hb
  go_enter Tryz.func14, Tryz.ntmps14
  go_wp2_with fail
  refine (triangle_at _).mono ?_
  intro e w1 hT
  obtain ⟨p1, rfl, a1, a2⟩ := hT
  have A1 := hide a1
  have A2 := hide a2
  obtain ⟨po1, pc1, pe1, j1⟩ := a1
  subst pe1
  clear a2 j1
  go_wp2_with fail
  refine (tree_ok ((3 : Nat) : Int) _ triPs 3 _ (HB.out.keep A2.out) A1.out tri_good tri_check).mono ?_
  intro e w2 hE
  obtain ⟨tv, rfl, b1, b2⟩ := hE
  rw [tri_tree] at b1
  have B1 := hide b1
  have B2 := hide (gr_none A2.out b2)
  obtain ⟨to1, tc1, te1, j1⟩ := b1
  subst te1
  clear b2 j1 A1 A2
  go_wp2_with fail
  refine (triangle_at _).mono ?_
  intro e w3 hT
  obtain ⟨p2, rfl, c1, c2⟩ := hT
  have C1 := hide c1
  have C2 := hide c2
  have C3 := hide (gr_none (gr_alloc B2.out _) c2)
  obtain ⟨po2, pc2, pe2, j1⟩ := c1
  subst pe2
  clear c2 j1
  go_wp2_with fail
  refine (loops_ok ((3 : Nat) : Int) _ triPs 3 _ (HB.out.keep C3.out) C1.out tri_good tri_check).mono ?_
  intro e w4 hE
  obtain ⟨lv, rfl, d1, d2⟩ := hE
  rw [tri_loops] at d1
  have D1 := hide d1
  have D2 := hide (gr_none C3.out d2)
  have D3 := hide (gr_none C2.out d2)
  obtain ⟨lvals, ⟨lo, lc, le, j1⟩, j2, j3⟩ := d1
  subst le
  have hlv : lvals.length = 1 := j2
  rw [hlv]
  rw [hlv] at D1
  clear d2 j1 j2 j3 C1 C2 C3 hlv
  go_wp2_with fail
  refine (triangle_at _).mono ?_
  intro e w5 hT
  obtain ⟨p3, rfl, e1, e2⟩ := hT
  have E1 := hide e1
  have E2 := hide e2
  have E3 := hide (gr_none (gr_alloc D2.out _) e2)
  obtain ⟨po3, pc3, pe3, j1⟩ := e1
  subst pe3
  clear e2 j1
  go_wp2_with fail
  refine (cuts_ok ((3 : Nat) : Int) _ triPs 3 _ (HB.out.keep E3.out) E1.out tri_good tri_check).mono ?_
  intro e w6 hE
  obtain ⟨cv, rfl, f1, f2⟩ := hE
  rw [tri_cuts] at f1
  have F1 := hide f1
  have F2 := hide (gr_none E3.out f2)
  have F3 := hide (gr_none E2.out f2)
  have F4 := hide (gr_none D3.out (gr_none (gr_alloc (gr_refl _ _) _) F3.out))
  obtain ⟨cvals, ⟨co, cc, ce, j1⟩, j2, j3⟩ := f1
  subst ce
  have hcv : cvals.length = 2 := j2
  rw [hcv]
  rw [hcv] at F1
  clear f2 j1 j2 j3 E1 hcv
  have q2 := box_two F4.out
  have q4 := box_two F3.out
  have hs2 : w2.heap.size < w6.heap.size := by have := F4.out.size; simp at this; omega
  have hs4 : w4.heap.size < w6.heap.size := by have := F3.out.size; simp at this; omega
  have B6 : Hid (RowG nv w6 (.slice to1 2 tc1) [0, 1]) := B1.out.keep (gr_none (gr_alloc (gr_refl _ _) _) F4.out)
  have D6 : Hid (Rows2 w6 (.slice lo 1 lc) [[1, 1, 1]]) := D1.out.keep (gr_none (gr_alloc (gr_refl _ _) _) F3.out)
  clear B1 D1 D3 E2 F3 F4
  go_wp2_with fail
  refine (equal_at _ _ [0, 1] [0, 1] _ ((row_of B6.out).keep (gr_alloc (gr_alloc (gr_refl _ _) _) _)) ((new_row [0, 1] (by simp)).row (by unfold maxLen; simp))).mono ?_
  rintro e w7 ⟨rfl, q7, rfl⟩
  rw [beq_self_eq_true]
  go_wp2_with fail
  refine (tables_at _ _ [[1, 1, 1]] _ (D6.out.keep (gr_alloc (gr_alloc (gr_drewN (gr_alloc (gr_alloc (gr_refl _ _) _) _) _) _) _)) (new_tab1 [1, 1, 1] (by simp) (by simp) rfl (by simp))).mono ?_
  rintro e w8 ⟨rfl, q8, rfl⟩
  go_wp2_with fail
  refine (tables_at _ _ [[1, 0, -1], [0, 1, -1]] _ (F1.out.keep ?_) (new_tab2 [1, 0, -1] [0, 1, -1] (by simp) (by simp) (by simp) rfl rfl (by simp) (by simp))).mono ?_
  · exact gr_alloc (gr_alloc (gr_alloc (gr_drewN (gr_alloc (gr_alloc (gr_drewN (gr_alloc (gr_alloc (gr_refl _ _) _) _) _) _) _) _) _) _) _
  rintro e w9 ⟨rfl, q9, rfl⟩
  go_wp2
  go_ret
  refine ⟨rfl, ?_⟩
  exact gr_drewN (gr_alloc (gr_alloc (gr_alloc (gr_drewN (gr_alloc (gr_alloc (gr_drewN (gr_alloc (gr_alloc F2.out _) _) _) _) _) _) _) _) _) _
end Go.Proofs.YtfhamfgcjdhmdaaGreatDoor
