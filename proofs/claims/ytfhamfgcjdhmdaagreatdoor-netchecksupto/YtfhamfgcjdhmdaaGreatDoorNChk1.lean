/- The law NetChecks: what the calls answer, whatever the net. -/
import Derived.Test.YtfhamfgcjdhmdaaGreatDoorMLaw
import Derived.Test.YtfhamfgcjdhmdaaGreatDoorRChk2
import Derived.Test.YtfhamfgcjdhmdaaGreatDoorNLin
import Derived.Test.YtfhamfgcjdhmdaaGreatDoorRLoop
import Derived.Test.YtfhamfgcjdhmdaaGreatDoorMRd
namespace Go.Proofs.YtfhamfgcjdhmdaaGreatDoor
open Go.RowKit
set_option linter.unusedVariables false

/-- Two faults that are the same. -/
theorem fault_same (C1 C2 : Int) (W : World) : (binOp .neq 26 (.agg #[.int .i64 C1, .int .i64 C2]) (.agg #[.int .i64 C1, .int .i64 C2])).run Tryz.prog W = .ok (.bool false) W := by
  go_simp

/-- A list and a fault: with a fault the list is empty, without one P holds of it. -/
def AnsE (P : World → Value → Prop) (w : World) (C1 C2 : Int) (e : Ending) (w' : World) : Prop :=
  ∃ o l c, e = .returned (.tuple #[.slice o l c, .agg #[.int .i64 C1, .int .i64 C2]]) ∧ (C1 ≠ 0 → l = 0) ∧ (C1 = 0 → P w' (.slice o l c)) ∧ w.grownBy w' none

theorem ans_bad {P : World → Value → Prop} {w w' : World} {nodes : Int} {ps : List Prt} {e : Ending} (hC : (checkN nodes ps).1 ≠ 0) (h : BadE w (checkN nodes ps) e w') : AnsE P w (checkN nodes ps).1 (checkN nodes ps).2 e w' := by
  obtain ⟨rfl, hg⟩ := h
  exact ⟨none, 0, 0, rfl, fun _ => rfl, fun h => absurd h hC, hg⟩

def IslP (nodes : Int) (ps : List Prt) (w : World) (v : Value) : Prop := RowG iv w v (labs nodes.toNat (labF (prs ps)))
def TreeP (ps : List Prt) (w : World) (v : Value) : Prop := RowG nv w v (treeOf (prs ps))
def LpsP (ps : List Prt) (w : World) (v : Value) : Prop := Rows2 w v (loopsUpto ps.length (treeOf (prs ps)) (cutsL (prs ps) (treeOf (prs ps))) ps.length)
def CutP (ps : List Prt) (w : World) (v : Value) : Prop := Rows2 w v (cutsL (prs ps) (treeOf (prs ps)))

theorem arr_row {α : Type} {f : α → Value} {t : TypeId} {w : World} {g : Nat} {xs : List α} (h : RArr f t w g xs) (hm : xs.length ≤ maxLen) : RowG f w (.slice (some ⟨g, 0, none⟩) xs.length xs.length) xs :=
  ⟨_, _, rfl, Nat.le_refl _, hm, fun i hi => ⟨g, 0, rfl, h.lt, by rw [Nat.zero_add]; exact h.cell i hi⟩⟩

theorem isl_any (nodes : Int) (pv : Value) (ps : List Prt) (w : World) (hb : Base w) (hp : PartsAt w pv ps) :
    Calls Tryz.prog 19 #[.agg #[.int .i64 nodes, pv]] w fun e w' => AnsE (IslP nodes ps) w (checkN nodes ps).1 (checkN nodes ps).2 e w' := by
  by_cases hC : (checkN nodes ps).1 = 0
  · obtain ⟨h1, h2⟩ := good_of hC
    refine (islands_ok nodes pv ps nodes.toNat w hb hp h1 h2).mono ?_
    rintro e w' ⟨g, rfl, k1, k2⟩
    have hl : (labs nodes.toNat (labF (prs ps))).length = nodes.toNat := labs_length _ _
    have hr := arr_row k1 (by rw [hl]; have := h1.hi; unfold maxLen; omega)
    rw [hl] at hr
    exact ⟨_, _, _, by rw [h2], fun h => absurd hC h, fun _ => hr, k2⟩
  · exact (islands_bad nodes pv ps w hb hp hC).mono fun e w' h => ans_bad hC h

theorem tree_any (nodes : Int) (pv : Value) (ps : List Prt) (w : World) (hb : Base w) (hp : PartsAt w pv ps) :
    Calls Tryz.prog 20 #[.agg #[.int .i64 nodes, pv]] w fun e w' => AnsE (TreeP ps) w (checkN nodes ps).1 (checkN nodes ps).2 e w' := by
  by_cases hC : (checkN nodes ps).1 = 0
  · obtain ⟨h1, h2⟩ := good_of hC
    refine (tree_ok nodes pv ps nodes.toNat w hb hp h1 h2).mono ?_
    rintro e w' ⟨v, rfl, k1, k2⟩
    have k := k1
    obtain ⟨ao, cap, rfl, _⟩ := k1
    exact ⟨_, _, _, by rw [h2], fun h => absurd hC h, fun _ => k, k2⟩
  · exact (tree_bad nodes pv ps w hb hp hC).mono fun e w' h => ans_bad hC h

theorem loops_any (nodes : Int) (pv : Value) (ps : List Prt) (w : World) (hb : Base w) (hp : PartsAt w pv ps) :
    Calls Tryz.prog 21 #[.agg #[.int .i64 nodes, pv]] w fun e w' => AnsE (LpsP ps) w (checkN nodes ps).1 (checkN nodes ps).2 e w' := by
  by_cases hC : (checkN nodes ps).1 = 0
  · obtain ⟨h1, h2⟩ := good_of hC
    refine (loops_ok nodes pv ps nodes.toNat w hb hp h1 h2).mono ?_
    rintro e w' ⟨v, rfl, k1, k2⟩
    have k := k1
    obtain ⟨vals, ⟨ao, cap, rfl, _⟩, _⟩ := k1
    exact ⟨_, _, _, by rw [h2], fun h => absurd hC h, fun _ => k, k2⟩
  · exact (loops_bad nodes pv ps w hb hp hC).mono fun e w' h => ans_bad hC h

theorem cuts_any (nodes : Int) (pv : Value) (ps : List Prt) (w : World) (hb : Base w) (hp : PartsAt w pv ps) :
    Calls Tryz.prog 22 #[.agg #[.int .i64 nodes, pv]] w fun e w' => AnsE (CutP ps) w (checkN nodes ps).1 (checkN nodes ps).2 e w' := by
  by_cases hC : (checkN nodes ps).1 = 0
  · obtain ⟨h1, h2⟩ := good_of hC
    refine (cuts_ok nodes pv ps nodes.toNat w hb hp h1 h2).mono ?_
    rintro e w' ⟨v, rfl, k1, k2⟩
    have k := k1
    obtain ⟨vals, ⟨ao, cap, rfl, _⟩, _⟩ := k1
    exact ⟨_, _, _, by rw [h2], fun h => absurd hC h, fun _ => k, k2⟩
  · exact (cuts_bad nodes pv ps w hb hp hC).mono fun e w' h => ans_bad hC h

/-- The first ones of parts that lie in a row. -/
theorem own_parts {w : World} {g n cap : Nat} {ps qs : List Prt} (h : PartsAt w (.slice (some ⟨g, 0, none⟩) n cap) (ps ++ qs)) : PartsAt w (.slice (some ⟨g, 0, none⟩) ps.length cap) ps := by
  obtain ⟨ao, c, e, h1, h2, h3⟩ := h
  simp only [Value.slice.injEq] at e
  obtain ⟨rfl, rfl, rfl⟩ := e
  refine ⟨_, cap, rfl, by simp at h1; omega, h2, fun i hi => ?_⟩
  have := h3 i (by simp; omega)
  rw [List.getElem_append_left hi] at this
  exact this

/-- The closure that says yes. -/
theorem yes_at (i : Nat) (w : World) : Calls Tryz.prog 30 #[.int .i64 (i : Nat)] w fun e wy => e = .returned (.bool true) ∧ w.grownBy wy none := by
  go_enter Tryz.func30, Tryz.ntmps30
  go_wp2
  go_ret
  exact ⟨rfl, gr_refl _ _⟩

/-- slices.Contains of whole numbers. -/
theorem contains_at (tv : Value) (T : List Nat) (x : Nat) (w : World) (hT : RowG nv w tv T) :
    Calls Tryz.prog 26 #[tv, .int .i64 (x : Nat)] w fun e w' => e = .returned (.bool (T.contains x)) ∧ w' = w := by
  obtain ⟨ao, cap, rfl, h1, h2, h3⟩ := hT
  unfold maxLen at h2
  cases hTe : T with
  | nil => exact Tryz.slices_Contains_int_empty ao cap (x : Int) w
  | cons a r =>
    rw [← hTe]
    obtain ⟨b, off, rfl, _, _⟩ := h3 0 (by rw [hTe]; simp)
    refine (Tryz.slices_Contains_int b off T.length cap (T.map fun y : Nat => (y : Int)) (x : Int) w (by simp) (by omega) ?_).mono ?_
    · intro j hj
      have hj' : j < T.length := by simpa using hj
      obtain ⟨b2, off2, e, _, c⟩ := h3 j hj'
      simp only [Option.some.injEq, Addr.mk.injEq, and_true] at e
      obtain ⟨rfl, rfl⟩ := e
      rw [c]
      simp [List.getD, hj']
    · rintro e w' ⟨rfl, rfl⟩
      refine ⟨?_, rfl⟩
      rw [List.take_of_length_le (by simp)]
      congr 2
      rw [Bool.eq_iff_iff]
      simp only [List.contains_eq_mem, List.mem_map, decide_eq_true_eq]
      constructor
      · rintro ⟨a, h1, h2⟩
        have : a = x := by omega
        subst this
        exact h1
      · intro h
        exact ⟨x, h, rfl⟩
end Go.Proofs.YtfhamfgcjdhmdaaGreatDoor
