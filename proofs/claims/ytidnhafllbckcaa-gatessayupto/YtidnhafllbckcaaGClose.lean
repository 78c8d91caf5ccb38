/- slices.Equal of pairs; the closed fact. -/
import Derived.Test.YtidnhafllbckcaaGRisks
import Derived.ChangeKeysEq
namespace Go.Proofs.Ytidnhafllbckcaa
open Go.RowKit
set_option linter.unusedVariables false
set_option linter.unusedSimpArgs false

theorem eqI (z : Int) (w : World) : (Op.equalIn 9999 3 (.int .i64 z) (.int .i64 z)).run Try.prog w = .ok true w := by
  have h : (z == z) = true := beq_self_eq_true z
  have k : (Op.equalIn 9999 3 (.int .i64 z) (.int .i64 z)).run Try.prog w = .ok (z == z) w := by kernel_rfl
  rw [k, h]

theorem eq2 (l m : Int) (w : World) : (Op.equalIn 10000 42 (.agg #[.int .i64 l, .int .i64 m]) (.agg #[.int .i64 l, .int .i64 m])).run Try.prog w = .ok true w := by
  have k : (Op.equalIn 10000 42 (.agg #[.int .i64 l, .int .i64 m]) (.agg #[.int .i64 l, .int .i64 m])).run Try.prog w = .ok (if (!(l == l)) = true then false else if (!(m == m)) = true then false else true) w := by
    obtain ⟨i, hi⟩ : ∃ i, Try.prog.info? 3 = some i := Option.isSome_iff_exists.1 (by kernel_rfl)
    have hc : Try.prog.cellsOf 3 = 1 := by kernel_rfl
    rw [run_equalIn_array (P := Try.prog) w 9999 (n := 2) (e := 3) _ _ (by kernel_rfl) hi, hc]
    have e0 : (part 3 #[Value.int .i64 l, Value.int .i64 m] 0).run Try.prog w = .ok (.int .i64 l) w := by kernel_rfl
    have e1 : (part 3 #[Value.int .i64 l, Value.int .i64 m] 1).run Try.prog w = .ok (.int .i64 m) w := by kernel_rfl
    have hr : List.range 2 = [0, 1] := rfl
    rw [hr]
    simp only [Op.eqItems, Sem.run_bind, Nat.zero_mul, Nat.one_mul, Nat.mul_one, e0, e1, Result.andThen_ok, eqI, Bool.not_true, Bool.false_eq_true, if_false, Sem.run_pure]
    simp
  rw [k]
  simp

def EqR (w : World) (m : Nat) (iv : Value) (wr : World) : Prop := ∃ i : Nat, i ≤ m ∧ iv = .int .i64 (i : Nat) ∧ w.grownBy wr none

set_option maxHeartbeats 4000000 in
set_option maxRecDepth 10000 in
theorem equalPr_at (ps : List (Nat × Nat)) (u v : Value) (w : World) (hu : PrR w u ps) (hv : PrR w v ps) :
    Calls Try.prog 16 #[u, v] w fun e w' => e = .returned (.bool true) ∧ w.grownBy w' none := by
  obtain ⟨uo, uc, rfl, u1, u2, u3⟩ := hu
  obtain ⟨vo, vc, rfl, v1, v2, v3⟩ := hv
  have HU := hide u3
  have HV := hide v3
  unfold maxLen at u2 v2
  clear u3 v3
  go_enter Try.func16, Try.ntmps16
  go_wp2
  go_loopw [13] (fun iv wr => Hid (EqR w ps.length iv wr)) (fun iv _ => ps.length - (intOf iv).toNat)
  case atStart => exact ⟨0, Nat.zero_le _, rfl, gr_refl _ _⟩
  case round =>
    obtain ⟨j, hj, rfl, hgr⟩ := hrel.out
    have HGR := hide hgr
    clear hgr hrel
    by_cases hlt : j < ps.length
    · obtain ⟨b1, o1, rfl, hb1, p0, p1⟩ := HU.out j hlt
      obtain ⟨b2, o2, rfl, hb2, q0, q1⟩ := HV.out j hlt
      have p0 := gr_cell HGR.out p0
      have p1 := gr_cell HGR.out p1
      have q0 := gr_cell HGR.out q0
      have q1 := gr_cell HGR.out q1
      have hltz : (j : Int) < (ps.length : Int) := by omega
      obtain ⟨x, hx⟩ : ∃ x : Int, x = ((ps[j]).1 : Nat) := ⟨_, rfl⟩
      obtain ⟨y, hy⟩ : ∃ y : Int, y = ((ps[j]).2 : Nat) := ⟨_, rfl⟩
      rw [← hx] at p0 q0
      rw [← hy] at p1 q1
      have heq : ∀ wx, (Op.equalIn 10000 42 (.agg #[.int .i64 x, .int .i64 y]) (.agg #[.int .i64 x, .int .i64 y])).run Try.prog wx = .ok true wx := fun wx => eq2 x y wx
      have i2 : (Try.prog.info? 42).isSome = true := by kernel_rfl
      clear hx hy
      go_upto_region 6 with fail
      go_region
      all_goals
        go_wp2
        go_roundw
        case rel => exact ⟨j + 1, by omega, by go_num, gr_drew HGR.out⟩
        case measure => simp [intOf]; omega
    · obtain rfl : j = ps.length := by omega
      go_wp2
      go_ret
      exact ⟨rfl, HGR.out⟩

/-- The closed fact's expression: a switch beside its opposite. -/
def ex0 : Ex 2 := ((3, 0, false, [(1, 0, false, []), (1, 0, true, [])]) : Int × Int × Bool × List (Int × Int × Bool × List Empty))

theorem ex0_table : tableE 2 ex0 1 = (3, 0) := by rfl
theorem ex0_closed : closedE 2 ex0 [2] = (2, 0) := by rfl
theorem ex0_check : checkE 2 ex0 1 = 0 := by rfl
theorem ex0_risks : risksL 2 ex0 1 2 = [(0, 1)] := by decide +kernel

theorem ex0_at {w : World} {g : Nat} (h : BoxC w g #[.int .i64 1, .int .i64 0, .bool false, .slice none 0 0, .int .i64 1, .int .i64 0, .bool true, .slice none 0 0]) :
    WayC w 2 (.int .i64 3) (.int .i64 0) (.bool false) (.slice (some ⟨g, 0, none⟩) 2 2) ex0 := by
  refine ⟨rfl, rfl, rfl, some ⟨g, 0, none⟩, 2, rfl, Nat.le_refl _, by unfold maxLen; decide, fun j hj => ?_⟩
  have hj2 : j < 2 := hj
  refine ⟨g, 0, rfl, h.lt, ?_⟩
  match j, hj2 with
  | 0, _ => exact ⟨_, _, _, _, h.cell 0, h.cell 1, h.cell 2, h.cell 3, rfl, rfl, rfl, none, 0, rfl, Nat.le_refl _, Nat.zero_le _, fun i hi => absurd hi (Nat.not_lt_zero _)⟩
  | 1, _ => exact ⟨_, _, _, _, h.cell 4, h.cell 5, h.cell 6, h.cell 7, rfl, rfl, rfl, none, 0, rfl, Nat.le_refl _, Nat.zero_le _, fun i hi => absurd hi (Nat.not_lt_zero _)⟩

set_option maxHeartbeats 4000000 in
set_option maxRecDepth 10000 in
theorem closes_at (w : World) : Calls Try.prog 5 #[] w fun e w' => e = .returned (.bool true) ∧ w.grownBy w' none := by
  obtain ⟨W, hW⟩ : ∃ W, W = (w.alloc (Obj.cells #[.int .i64 1, .int .i64 0, .bool false, .slice none 0 0, .int .i64 1, .int .i64 0, .bool true, .slice none 0 0] 24)).alloc (Obj.cells #[.int .i64 3, .int .i64 0, .bool false, .slice (some ⟨w.heap.size, 0, none⟩) 2 2] 24) := ⟨_, rfl⟩
  have GW := hide (show w.grownBy W none by rw [hW]; exact gr_alloc (gr_alloc (gr_refl _ _) _) _)
  have BA := hide (show BoxC W w.heap.size #[.int .i64 1, .int .i64 0, .bool false, .slice none 0 0, .int .i64 1, .int .i64 0, .bool true, .slice none 0 0] by rw [hW]; exact (boxNew _ _ _).keep0 (gr_alloc (gr_refl _ _) _))
  have BB := hide (show BoxC W (w.heap.size + 1) #[.int .i64 3, .int .i64 0, .bool false, .slice (some ⟨w.heap.size, 0, none⟩) 2 2] by rw [hW]; exact boxNew' _ _ _ _ (by simp))
  have hl2 := BB.out.lt
  go_enter Try.func5, Try.ntmps5
  go_wp2_with fail
  rw [← hW]
  clear hW
  refine (table_at 2 ex0 _ _ _ _ 1 W (ex0_at BA.out)).mono ?_
  rintro e w1 ⟨rfl, g1⟩
  rw [ex0_table]
  have G1 := hide g1
  obtain ⟨p0, p1, p2, p3⟩ := (BB.out.keep0 g1).c4
  clear g1
  go_wp2_with fail
  have gX := hide (gr_none G1.out (gr_alloc (gr_refl w1 none) (Obj.cells #[.int .i64 2] 3)))
  refine (closed_at 2 ex0 _ _ _ _ _ [2] _ (ex0_at (BA.out.keep0 gX.out)) ⟨_, 1, rfl, Nat.le_refl _, by unfold maxLen; decide, fun j hj => ?_⟩).mono ?_
  · obtain rfl : j = 0 := by simpa using hj
    exact ⟨w1.heap.size, 0, rfl, by simp, (boxNew w1 #[.int .i64 2] 3).cell 0⟩
  rintro e w2 ⟨rfl, g2⟩
  rw [ex0_closed]
  have G2 := hide (gr_none gX.out g2)
  obtain ⟨q0, q1, q2, q3⟩ := (BB.out.keep0 (gr_none gX.out g2)).c4
  clear g2 gX G1 p0 p1 p2 p3
  go_wp2_with fail
  refine (risks_at 2 ex0 _ _ _ _ 1 w2 (ex0_at (BA.out.keep0 G2.out))).mono ?_
  intro e w3 hR
  rcases hR with ⟨hc, _⟩ | ⟨_, v, rfl, hP, g3⟩
  · exact absurd ex0_check hc
  · have hP2 : PrR w3 v [(0, 1)] := by
      have : risksL 2 ex0 (1 : Int).toNat (2 ^ (1 : Int).toNat) = [(0, 1)] := ex0_risks
      rw [this] at hP
      exact hP
    have HP := hide hP2
    obtain ⟨vo, vc, rfl, _, _, _⟩ := hP2
    have G3 := hide (gr_none (gr_none GW.out G2.out) g3)
    clear g3 hP q0 q1 q2 q3
    go_wp2_with fail
    refine (equalPr_at [(0, 1)] _ _ _ (HP.out.keep (gr_alloc (gr_refl _ _) _)) ⟨_, 1, rfl, Nat.le_refl _, by unfold maxLen; decide, fun j hj => ?_⟩).mono ?_
    · obtain rfl : j = 0 := by simpa using hj
      exact ⟨w3.heap.size, 0, rfl, by simp, (boxNew w3 #[.int .i64 0, .int .i64 1] 42).cell 0, (boxNew w3 #[.int .i64 0, .int .i64 1] 42).cell 1⟩
    rintro e w4 ⟨rfl, g4⟩
    have G4 := hide (gr_none (gr_alloc G3.out _) g4)
    clear g4
    go_wp2
    go_ret
    exact ⟨rfl, G4.out⟩
end Go.Proofs.Ytidnhafllbckcaa
