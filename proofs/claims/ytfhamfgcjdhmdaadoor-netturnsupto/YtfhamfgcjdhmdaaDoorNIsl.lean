/- net: Islands. -/
import Derived.Test.YtfhamfgcjdhmdaaDoorNJoin
import Derived.RegionTactic
import Derived.BigRegion
namespace Go.Proofs.YtfhamfgcjdhmdaaDoor
open Go.RowKit
set_option linter.unusedVariables false

/-- The parts' ends. -/
def prs (ps : List Prt) : List Pr := ps.map fun p => (p.a.toNat, p.b.toNat)

/-- A right net. -/
structure Good (nodes : Int) (ps : List Prt) (n : Nat) : Prop where
  nodes : nodes = (n : Int)
  lo : 1 ≤ n
  hi : n ≤ 8
  len : ps.length ≤ 16
  ends : ∀ i (h : i < ps.length), ∃ a b : Nat, ps[i].a = (a : Int) ∧ ps[i].b = (b : Int) ∧ a < n ∧ b < n

theorem first_ok {nodes : Int} {ps : List Prt} {i : Nat} (h : (firstBad nodes ps i).1 = 0) : ∀ p ∈ ps, wrongP p nodes = 0 := by
  induction ps generalizing i with
  | nil => intro p hp; simp at hp
  | cons q r ih =>
    intro p hp
    by_cases hq : wrongP q nodes = 0
    · rw [firstBad, if_pos hq] at h
      rcases List.mem_cons.1 hp with rfl | hp
      · exact hq
      · exact ih h p hp
    · rw [firstBad, if_neg hq] at h
      exact absurd h hq

theorem wrong_ends {p : Prt} {nodes : Int} (h : wrongP p nodes = 0) : isN p.a nodes = true ∧ isN p.b nodes = true := by
  unfold wrongP at h
  split at h
  · exact absurd h (by decide)
  · unfold wrongK at h
    split at h
    · exact absurd h (by decide)
    · rename_i h1
      constructor
      · cases h2 : isN p.a nodes with
        | true => rfl
        | false => rw [h2] at h1; simp at h1
      · cases h2 : isN p.b nodes with
        | true => rfl
        | false => rw [h2] at h1; simp at h1

theorem good_of {nodes : Int} {ps : List Prt} (h : (checkN nodes ps).1 = 0) : Good nodes ps nodes.toNat ∧ checkN nodes ps = (0, 0) := by
  unfold checkN at h ⊢
  by_cases hm : nodes < 1 ∨ 8 < nodes ∨ 16 < ps.length
  · rw [if_pos hm] at h
    exact absurd h (by decide)
  · rw [if_neg hm] at h ⊢
    have hall := first_ok h
    refine ⟨⟨by omega, by omega, by omega, by omega, fun i hi => ?_⟩, ?_⟩
    · obtain ⟨h1, h2⟩ := wrong_ends (hall ps[i] (List.getElem_mem hi))
      unfold isN at h1 h2
      rw [Bool.and_eq_true, decide_eq_true_eq, decide_eq_true_eq] at h1 h2
      exact ⟨ps[i].a.toNat, ps[i].b.toNat, by omega, by omega, by omega, by omega⟩
    · have key : ∀ (qs : List Prt) (i : Nat), (∀ p ∈ qs, wrongP p nodes = 0) → firstBad nodes qs i = (0, 0) := by
        intro qs
        induction qs with
        | nil => intro i _; rfl
        | cons q r ih =>
          intro i hq
          rw [firstBad, if_pos (hq q (by simp))]
          exact ih _ (fun p hp => hq p (by simp [hp]))
      exact key ps 0 hall

/-- What a function says of a net that is wrong. -/
def BadE (w : World) (C : Int × Int) (e : Ending) (w' : World) : Prop := e = .returned (.tuple #[.slice none 0 0, .agg #[.int .i64 C.1, .int .i64 C.2]]) ∧ w.grownBy w' none

set_option maxHeartbeats 2000000 in
set_option maxRecDepth 10000 in
theorem islands_bad (nodes : Int) (pv : Value) (ps : List Prt) (w : World) (hb : Base w) (hp : PartsAt w pv ps) (hC : (checkN nodes ps).1 ≠ 0) :
    Calls Tryd.prog 7 #[.agg #[.int .i64 nodes, pv]] w fun e w' => BadE w (checkN nodes ps) e w' := by
  have HB := hide hb
  have HP := hide hp
  obtain ⟨ao, cap, rfl, h1, h2, h3⟩ := hp
  clear h3 hb h2
  go_enter Tryd.func7, Tryd.ntmps7
  go_wp2_with fail
  have gW : w.grownBy ((w.alloc (Obj.cells #[.int .i64 nodes, .slice ao ps.length cap] 24)).alloc (Obj.cells #[.int .i64 0, .int .i64 0] 29)) none := gr_alloc (gr_alloc (gr_refl _ _) _) _
  have GW := hide gW
  clear gW
  refine (Check_at nodes _ ps _ (HB.out.keep GW.out) (HP.out.keep GW.out)).mono ?_
  intro e w1 hE
  obtain ⟨rfl, g1⟩ := hE
  have HG := hide (gr_none GW.out g1)
  have hrr : w1.cell? ⟨w.heap.size + 1, 0, none⟩ = some (.int .i64 0) ∧ w1.cell? ⟨w.heap.size + 1, 1, none⟩ = some (.int .i64 0) ∧ (∀ i, w1.frozen? ⟨w.heap.size + 1, i, none⟩ = false) := by
    have := res_two g1
    simpa using this
  obtain ⟨r0, r1, rf⟩ := hrr
  have rf0 := rf 0
  have rf1 := rf 1
  have hsz : w.heap.size + 1 < w1.heap.size := by have := g1.size; simp at this; omega
  obtain ⟨C, hC'⟩ : ∃ C, C = checkN nodes ps := ⟨_, rfl⟩
  rw [← hC'] at hC ⊢
  obtain ⟨C1, C2⟩ := C
  simp only at hC
  have hz := ne_beq hC
  have HC := hide hC'
  clear rf g1 hC' hC
  go_wp2
  go_region
  go_wp2
  refine bodyPost_ret (v := .tuple #[.slice none 0 0, .agg #[.int .i64 C1, .int .i64 C2]]) (by simp [results, Tryd.results7, go_sem, r0, r1, hsz]) rfl ?_
  refine ⟨?_, ?_⟩
  · rw [← HC.out]
  · exact gr_drewN (gr_alloc (gr_set (gr_set HG.out _ _ (by simp)) _ _ (by simp)) _) 1

/-- What Islands answers of a right net. -/
def IslE (w : World) (ps : List Prt) (n : Nat) (e : Ending) (w' : World) : Prop := ∃ g, e = .returned (.tuple #[.slice (some ⟨g, 0, none⟩) n n, .agg #[.int .i64 0, .int .i64 0]]) ∧ IArr w' g (labs n (labF (prs ps))) ∧ w.grownBy w' none

def IslR (W : World) (g n : Nat) (ps : List Prt) (v : Value) (wr : World) : Prop := ∃ i : Nat, i ≤ ps.length ∧ v = .int .i64 i ∧ IArr wr g (labs n (labF ((prs ps).take i))) ∧ W.grownBy wr none

theorem prs_take {ps : List Prt} {i : Nat} (h : i < ps.length) : (prs ps).take (i + 1) = (prs ps).take i ++ [(ps[i].a.toNat, ps[i].b.toNat)] := by
  rw [List.take_succ_eq_append_getElem (by simp [prs]; exact h)]
  simp [prs]

/-- New memory on top of new memory, and one block of it written. -/
theorem gr_blk {w w1 w2 : World} {g : Nat} (h : w.grownBy w1 none) (k : w1.grownBy w2 (some g)) (hg : w.heap.size ≤ g) : w.grownBy w2 none := gr_in h k hg

set_option maxHeartbeats 4000000 in
set_option maxRecDepth 10000 in
theorem islands_ok (nodes : Int) (pv : Value) (ps : List Prt) (n : Nat) (w : World) (hb : Base w) (hp : PartsAt w pv ps) (hG : Good nodes ps n) (hC : checkN nodes ps = (0, 0)) :
    Calls Tryd.prog 7 #[.agg #[.int .i64 nodes, pv]] w fun e w' => IslE w ps n e w' := by
  have HB := hide hb
  have HP := hide hp
  obtain ⟨ao, cap, rfl, h1, h2, h3⟩ := hp
  unfold maxLen at h2
  obtain ⟨rfl, g1, g2, g3, g4⟩ := hG
  have HE := hide g4
  have HPC := hide h3
  have HCK := hide hC
  clear h3 hb g4 hC
  go_enter Tryd.func7, Tryd.ntmps7
  go_wp2_with fail
  have gW : w.grownBy ((w.alloc (Obj.cells #[.int .i64 (n : Nat), .slice ao ps.length cap] 24)).alloc (Obj.cells #[.int .i64 0, .int .i64 0] 29)) none := gr_alloc (gr_alloc (gr_refl _ _) _) _
  have GW := hide gW
  clear gW
  refine (Check_at (n : Nat) _ ps _ (HB.out.keep GW.out) (HP.out.keep GW.out)).mono ?_
  intro e w1 hE
  obtain ⟨rfl, k1⟩ := hE
  rw [HCK.out]
  have K1 := hide k1
  have HG := hide (gr_none GW.out k1)
  have b0 := k1.cell (a := ⟨w.heap.size, 0, none⟩) (v := .int .i64 (n : Nat)) (by go_simp) (by simp)
  have b1 := k1.cell (a := ⟨w.heap.size, 1, none⟩) (v := .slice ao ps.length cap) (by go_simp) (by simp)
  have hsz : w.heap.size + 1 < w1.heap.size := by have := k1.size; simp at this; omega
  have hsz0 : w.heap.size < w1.heap.size := by omega
  clear k1
  obtain ⟨Wa, hWa⟩ : ∃ W, W = (w.alloc (Obj.cells #[.int .i64 (n : Nat), .slice ao ps.length cap] 24)).alloc (Obj.cells #[.int .i64 0, .int .i64 0] 29) := ⟨_, rfl⟩
  rw [← hWa] at K1 GW
  have RES : Hid (∀ wr : World, Wa.grownBy wr none → wr.cell? ⟨w.heap.size + 1, 0, none⟩ = some (.int .i64 0) ∧ wr.cell? ⟨w.heap.size + 1, 1, none⟩ = some (.int .i64 0) ∧ (∀ i, wr.frozen? ⟨w.heap.size + 1, i, none⟩ = false) ∧ wr.cell? ⟨w.heap.size, 0, none⟩ = some (.int .i64 (n : Nat)) ∧ wr.cell? ⟨w.heap.size, 1, none⟩ = some (.slice ao ps.length cap)) := by
    intro wr hg
    rw [hWa] at hg
    have := res_two hg
    refine ⟨by simpa using this.1, by simpa using this.2.1, by simpa using this.2.2, hg.cell (by go_simp) (by simp), hg.cell (by go_simp) (by simp)⟩
  have hWs : Wa.heap.size = w.heap.size + 2 := by rw [hWa]; simp
  have HWS := hide hWs
  clear hWa hWs
  go_wp2_with fail
  refine (apart_at n _ g2).mono ?_
  rintro e w2 ⟨rfl, a1, a2⟩
  have A1 := hide a1
  have A2 := hide (gr_none (gr_alloc K1.out _) a2)
  have hgs : Wa.heap.size ≤ (w1.alloc (Obj.cells #[Value.int IntKind.i64 0, Value.int IntKind.i64 0] 29)).heap.size := (gr_alloc K1.out _).size
  generalize (w1.alloc (Obj.cells #[Value.int IntKind.i64 0, Value.int IntKind.i64 0] 29)).heap.size = g at *
  obtain ⟨_, _, _, n0, n1⟩ := RES.out w2 A2.out
  clear a1 a2 b0 b1
  go_wp2
  go_loopw [20] (fun v wr => Hid (IslR Wa g n ps v wr)) (fun v _ => ps.length - (intOf v).toNat)
  case atStart => exact ⟨0, by omega, rfl, A1.out, A2.out⟩
  case round =>
    obtain ⟨i, hi, rfl, l1, l2⟩ := hrel.out
    have L1 := hide l1
    have L2 := hide l2
    obtain ⟨r0, r1, rf, _, _⟩ := RES.out wr l2
    have rf0 := rf 0
    have rf1 := rf 1
    clear l1 l2 hrel rf n0 n1 A1
    by_cases hlt : i < ps.length
    · obtain ⟨b, off, rfl, hb, c0, c1, c2, c3, c4, c5, c6⟩ := HPC.out i hlt
      have hgg := gr_none GW.out L2.out
      obtain ⟨ea, eb, e1, e2, e3, e4⟩ := HE.out i hlt
      have q0 := hgg.cell c0 (by simp)
      have q1 := hgg.cell c1 (by simp)
      have q2 := hgg.cell c2 (by simp)
      have q3 := hgg.cell c3 (by simp)
      have q4 := hgg.cell c4 (by simp)
      have q5 := hgg.cell c5 (by simp)
      have hpt := prs_take (ps := ps) hlt
      rw [e1, e2, Int.toNat_natCast, Int.toNat_natCast] at hpt
      rw [e1] at q1
      rw [e2] at q2
      have HPT := hide hpt
      generalize ps[i].kind = z0 at q0
      generalize ps[i].c = z3 at q3
      generalize ps[i].d = z4 at q4
      generalize ps[i].v = z5 at q5
      clear c0 c1 c2 c3 c4 c5 c6 hgg e1 e2 hpt HPC
      go_wp2_with fail
      refine (join_lab g n n ((prs ps).take i) ea eb _ g2 e3 e4 (L1.out.keep0 (gr_alloc (gr_refl _ _) _)) (by omega) (by unfold maxLen; omega)).mono ?_
      rintro e w3 ⟨rfl, j1, j2⟩
      have J1 := hide j1
      have J2 := hide (gr_in (gr_alloc L2.out _) j2 hgs)
      clear j1 j2
      go_wp2
      go_roundw
      case rel => exact ⟨i + 1, by omega, by go_num, by rw [HPT.out]; exact J1.out, J2.out⟩
      case measure => simp [intOf]; omega
    · have ht : (prs ps).take i = prs ps := List.take_of_length_le (by simp [prs]; omega)
      have HT := hide ht
      clear ht HPC
      go_wp2
      refine bodyPost_ret (v := .tuple #[.slice (some ⟨g, 0, none⟩) n n, .agg #[.int .i64 0, .int .i64 0]]) (by simp [results, Tryd.results7, go_sem, r0, r1]) rfl ?_
      refine ⟨g, rfl, ?_, gr_set (gr_set (gr_none GW.out L2.out) _ _ (by simp)) _ _ (by simp)⟩
      have h5 := L1.out
      rw [HT.out] at h5
      have hne : some g ≠ some (w.heap.size + 1) := by
        intro e
        have := Option.some.inj e
        have := HWS.out
        omega
      exact (h5.keep (gr_row (gr_refl wr _) (w.heap.size + 1) 0 (.int .i64 0) rfl) hne).keep (gr_row (gr_refl _ _) (w.heap.size + 1) 1 (.int .i64 0) rfl) hne
end Go.Proofs.YtfhamfgcjdhmdaaDoor
