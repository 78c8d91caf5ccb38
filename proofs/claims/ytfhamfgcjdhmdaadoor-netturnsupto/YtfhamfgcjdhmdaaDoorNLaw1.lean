/- The law's helpers: part, triangle, slices.Equal, Tables. -/
import Derived.Test.YtfhamfgcjdhmdaaDoorNMath2
namespace Go.Proofs.YtfhamfgcjdhmdaaDoor
open Go.RowKit
set_option linter.unusedVariables false

/-- The triangle's parts. -/
def triPs : List Prt := [⟨1, 0, 1, 0, 0, ⟨#[49]⟩⟩, ⟨1, 1, 2, 0, 0, ⟨#[49]⟩⟩, ⟨1, 2, 0, 0, 0, ⟨#[49]⟩⟩]

set_option maxHeartbeats 1000000 in
set_option maxRecDepth 10000 in
theorem part_at (k a b : Int) (v : ByteArray) (w : World) :
    Calls Tryd.prog 17 #[.int .i64 k, .int .i64 a, .int .i64 b, .string v] w fun e w' => e = .returned (.agg #[.int .i64 k, .int .i64 a, .int .i64 b, .int .i64 0, .int .i64 0, .string v]) ∧ w.grownBy w' none := by
  go_enter Tryd.func17, Tryd.ntmps17
  go_wp2
  exact bodyPost_ret (v := .agg #[.int .i64 k, .int .i64 a, .int .i64 b, .int .i64 0, .int .i64 0, .string v]) (by simp [results, Tryd.results17, go_sem]) rfl ⟨rfl, gr_alloc (gr_refl _ _) _⟩

/-- What triangle answers. -/
def TriE (w : World) (e : Ending) (w' : World) : Prop := ∃ pv, e = .returned (.agg #[.int .i64 3, pv]) ∧ PartsAt w' pv triPs ∧ w.grownBy w' none

theorem gr_none4 {w w1 w2 w3 : World} (a : w.grownBy w1 none) (b : w1.grownBy w2 none) (c : w2.grownBy w3 none) : w.grownBy w3 none := gr_none (gr_none a b) c

set_option maxHeartbeats 1000000 in
set_option maxRecDepth 10000 in
theorem triangle_at (w : World) : Calls Tryd.prog 9 #[] w fun e w' => TriE w e w' := by
  go_enter Tryd.func9, Tryd.ntmps9
  go_wp2_with fail
  refine (part_at 1 0 1 ⟨#[49]⟩ _).mono ?_
  rintro e w1 ⟨rfl, p1⟩
  have P1 := hide p1
  clear p1
  go_wp2_with fail
  refine (part_at 1 1 2 ⟨#[49]⟩ _).mono ?_
  rintro e w2 ⟨rfl, p2⟩
  have P2 := hide (gr_none P1.out p2)
  clear p2
  go_wp2_with fail
  refine (part_at 1 2 0 ⟨#[49]⟩ _).mono ?_
  rintro e w3 ⟨rfl, p3⟩
  have P3 := hide (gr_none P2.out p3)
  have hrr : w3.cell? ⟨w.heap.size, 0, none⟩ = some (.int .i64 0) ∧ w3.cell? ⟨w.heap.size, 1, none⟩ = some (.slice none 0 0) ∧ (∀ i, w3.frozen? ⟨w.heap.size, i, none⟩ = false) := by
    have := res_two P3.out
    simpa using this
  obtain ⟨r0, r1, rf⟩ := hrr
  have rf0 := rf 0
  have rf1 := rf 1
  have hsz : w.heap.size < w3.heap.size := by have := P3.out.size; simp at this; omega
  clear p3 rf
  go_wp2
  refine bodyPost_ret (v := .agg #[.int .i64 3, .slice (some ⟨w3.heap.size, 0, none⟩) 3 3]) (by simp [results, Tryd.results9, go_sem, r0, r1, hsz]) rfl ?_
  refine ⟨_, rfl, ?_, gr_alloc (gr_set (gr_set (gr_none (gr_alloc (gr_refl _ _) _) P3.out) _ _ (by simp)) _ _ (by simp)) _⟩
  refine ⟨_, 3, rfl, by simp [triPs], by unfold maxLen; omega, ?_⟩
  intro i hi
  have hi3 : i < 3 := hi
  refine ⟨w3.heap.size, 0, rfl, by simp, ?_⟩
  match i, hi3 with
  | 0, _ => exact ⟨by go_simp; rfl, by go_simp; rfl, by go_simp; rfl, by go_simp; rfl, by go_simp; rfl, by go_simp; rfl, by show (1 : Nat) ≤ 600000000; omega⟩
  | 1, _ => exact ⟨by go_simp; rfl, by go_simp; rfl, by go_simp; rfl, by go_simp; rfl, by go_simp; rfl, by go_simp; rfl, by show (1 : Nat) ≤ 600000000; omega⟩
  | 2, _ => exact ⟨by go_simp; rfl, by go_simp; rfl, by go_simp; rfl, by go_simp; rfl, by go_simp; rfl, by go_simp; rfl, by show (1 : Nat) ≤ 600000000; omega⟩

/-- slices.Equal of whole numbers. -/
theorem equal_at (va vb : Value) (xs ys : List Int) (w : World) (ha : RowG iv w va xs) (hb : RowG iv w vb ys) :
    Calls Tryd.prog 10 #[va, vb] w fun e w' => e = .returned (.bool (xs == ys)) ∧ ∃ q, w' = w.drewN q := by
  obtain ⟨ao, ca, rfl, a1, a2, a3⟩ := ha
  obtain ⟨bo, cb, rfl, b1, b2, b3⟩ := hb
  unfold maxLen at a2 b2
  by_cases hl : xs.length = ys.length
  · by_cases h0 : xs.length = 0
    · have e1 : xs = [] := List.eq_nil_of_length_eq_zero h0
      have e2 : ys = [] := List.eq_nil_of_length_eq_zero (by omega)
      subst e1 e2
      refine (Tryd.slices_Equal_int_empty ao bo ca 0 cb w (by omega)).mono ?_
      rintro e w' ⟨rfl, rfl⟩
      exact ⟨rfl, 0, rfl⟩
    · obtain ⟨ab, ax, rfl, _, _⟩ := a3 0 (by omega)
      obtain ⟨bb, bx, rfl, _, _⟩ := b3 0 (by omega)
      refine (Tryd.slices_Equal_int ab ax xs.length ca bb bx ys.length cb xs ys w (Nat.le_refl _) (Nat.le_refl _) (by omega) (by omega) ?_ ?_).mono ?_
      · intro j hj
        obtain ⟨b', o', e', _, c'⟩ := a3 j hj
        simp only [Option.some.injEq, Addr.mk.injEq, and_true] at e'
        obtain ⟨rfl, rfl⟩ := e'
        rw [c']
        simp [List.getD, hj]
      · intro j hj
        obtain ⟨b', o', e', _, c'⟩ := b3 j hj
        simp only [Option.some.injEq, Addr.mk.injEq, and_true] at e'
        obtain ⟨rfl, rfl⟩ := e'
        rw [c']
        simp [List.getD, hj]
      · rintro e w' ⟨rfl, q, rfl⟩
        rw [List.take_of_length_le (Nat.le_refl _), List.take_of_length_le (Nat.le_refl _)]
        exact ⟨rfl, q, rfl⟩
  · refine (Tryd.slices_Equal_int_lens ao bo xs.length ca ys.length cb w hl).mono ?_
    rintro e w' ⟨rfl, rfl⟩
    refine ⟨?_, 0, rfl⟩
    have : (xs == ys) = false := by
      rw [beq_eq_false_iff_ne]
      intro e
      exact hl (by rw [e])
    rw [this]

def EqfR (w : World) (xss : List (List Int)) (v : Value) (wr : World) : Prop := ∃ i q : Nat, i ≤ xss.length ∧ v = .int .i64 i ∧ wr = w.drewN q

set_option maxHeartbeats 2000000 in
set_option maxRecDepth 10000 in
/-- slices.EqualFunc with slices.Equal, of lists that are the same. -/
theorem equalFunc_at (va vb : Value) (xss : List (List Int)) (w : World) (ha : Rows2 w va xss) (hb : Rows2 w vb xss) :
    Calls Tryd.prog 18 #[va, vb, .func (.func 10) #[] #[]] w fun e w' => e = .returned (.bool true) ∧ ∃ q, w' = w.drewN q := by
  obtain ⟨avs, ⟨ao, ca, rfl, a1, a2, a3⟩, a4, a5⟩ := ha
  obtain ⟨bs, ⟨bo, cb, rfl, b1, b2, b3⟩, b4, b5⟩ := hb
  unfold maxLen at a2 b2
  have HA3 := hide a3
  have HA5 := hide a5
  have HB3 := hide b3
  have HB5 := hide b5
  have HA4 := hide a4
  have HB4 := hide b4
  have hne : (((avs.length : Nat) : Int) != ((bs.length : Nat) : Int)) = false := by rw [bne_eq_false_iff_eq]; omega
  have hab1 : avs.length ≤ bs.length := by omega
  have hab2 : bs.length ≤ avs.length := by omega
  have hax : avs.length ≤ xss.length := by omega
  have hxa : xss.length ≤ avs.length := by omega
  clear a3 a4 a5 b3 b4 b5
  go_enter Tryd.func18, Tryd.ntmps18
  go_wp2
  go_loopw [17] (fun v wr => EqfR w xss v wr) (fun v _ => xss.length - (intOf v).toNat)
  case atStart => exact ⟨0, 0, by omega, rfl, rfl⟩
  case round =>
    obtain ⟨i, q, hi, rfl, rfl⟩ := hrel
    by_cases hlt : i < xss.length
    · obtain ⟨ab, ax, rfl, _, ac⟩ := HA3.out i (by omega)
      obtain ⟨bb, bx, rfl, _, bc⟩ := HB3.out i (by omega)
      have ra := HA5.out i (by omega) hlt
      have rb := HB5.out i (by omega) hlt
      simp only [id] at ac bc
      obtain ⟨o1, c1, e1, r1⟩ := ra
      obtain ⟨o2, c2, e2, r2⟩ := rb
      rw [e1] at ac
      rw [e2] at bc
      have RA : Hid (RowG iv w (.slice o1 xss[i].length c1) xss[i]) := ⟨o1, c1, rfl, r1⟩
      have RB : Hid (RowG iv w (.slice o2 xss[i].length c2) xss[i]) := ⟨o2, c2, rfl, r2⟩
      clear e1 e2 r1 r2
      go_wp2_with fail
      refine (equal_at _ _ xss[i] xss[i] _ (RA.out.keep (gr_d _)) (RB.out.keep (gr_d _))).mono ?_
      rintro e w3 ⟨rfl, q2, rfl⟩
      rw [beq_self_eq_true]
      go_wp2
      go_roundw
      case rel => exact ⟨i + 1, q + q2, by omega, by go_num, by first | rfl | rw [World.drewN_drewN]⟩
      case measure => simp [intOf]; omega
    · go_wp2
      go_ret
      exact ⟨rfl, q, rfl⟩

set_option maxHeartbeats 1000000 in
theorem tables_at (va vb : Value) (xss : List (List Int)) (w : World) (ha : Rows2 w va xss) (hb : Rows2 w vb xss) :
    Calls Tryd.prog 11 #[va, vb] w fun e w' => e = .returned (.bool true) ∧ ∃ q, w' = w.drewN q := by
  have HA := hide ha
  have HB := hide hb
  obtain ⟨avs, ⟨ao, ca, rfl, j1⟩, j2⟩ := ha
  obtain ⟨bs, ⟨bo, cb, rfl, j3⟩, j4⟩ := hb
  clear j1 j2 j3 j4
  go_enter Tryd.func11, Tryd.ntmps11
  go_wp2_with fail
  refine (equalFunc_at _ _ xss _ HA.out HB.out).mono ?_
  rintro e w1 ⟨rfl, q, rfl⟩
  go_wp2
  go_ret
  exact ⟨rfl, q, rfl⟩
end Go.Proofs.YtfhamfgcjdhmdaaDoor
