/- net: Tree, Loops and Cuts of a net that is wrong; Cuts. -/
import Derived.Test.YtfhamfgcjdhmdaaDoorNLoop
namespace Go.Proofs.YtfhamfgcjdhmdaaDoor
open Go.RowKit
set_option linter.unusedVariables false

set_option maxHeartbeats 2000000 in
set_option maxRecDepth 10000 in
theorem tree_bad (nodes : Int) (pv : Value) (ps : List Prt) (w : World) (hb : Base w) (hp : PartsAt w pv ps) (hC : (checkN nodes ps).1 ≠ 0) :
    Calls Tryd.prog 8 #[.agg #[.int .i64 nodes, pv]] w fun e w' => BadE w (checkN nodes ps) e w' := by
  have HB := hide hb
  have HP := hide hp
  obtain ⟨ao, cap, rfl, h1, h2, h3⟩ := hp
  clear h3 hb h2
  go_enter Tryd.func8, Tryd.ntmps8
  go_wp2_with fail
  have gW : w.grownBy ((w.alloc (Obj.cells #[.int .i64 nodes, .slice ao ps.length cap] 24)).alloc (Obj.cells #[.int .i64 0, .int .i64 0] 29)) none := gr_alloc (gr_alloc (gr_refl _ _) _) _
  have GW := hide gW
  clear gW
  refine (Check_at nodes _ ps _ (HB.out.keep GW.out) (HP.out.keep GW.out)).mono ?_
  intro e w1 hE
  obtain ⟨rfl, g1⟩ := hE
  have HG := hide (gr_none GW.out g1)
  have hrr : w1.cell? ⟨w.heap.size + 1, 0, none⟩ = some (.int .i64 0) ∧ w1.cell? ⟨w.heap.size + 1, 1, none⟩ = some (.int .i64 0) ∧ (∀ i, w1.frozen? ⟨w.heap.size + 1, i, none⟩ = false) := by
    have := res_two g1
    simpa using this
  obtain ⟨r0, r1, rf⟩ := hrr
  have rf0 := rf 0
  have rf1 := rf 1
  have hsz : w.heap.size + 1 < w1.heap.size := by have := g1.size; simp at this; omega
  obtain ⟨C, hC'⟩ : ∃ C, C = checkN nodes ps := ⟨_, rfl⟩
  rw [← hC'] at hC ⊢
  obtain ⟨C1, C2⟩ := C
  simp only at hC
  have hz := ne_beq hC
  have HC := hide hC'
  clear rf g1 hC' hC
  go_wp2
  go_region
  go_wp2
  refine bodyPost_ret (v := .tuple #[.slice none 0 0, .agg #[.int .i64 C1, .int .i64 C2]]) (by simp [results, Tryd.results8, go_sem, r0, r1, hsz]) rfl ?_
  refine ⟨?_, ?_⟩
  · rw [← HC.out]
  · exact gr_drewN (gr_alloc (gr_set (gr_set HG.out _ _ (by simp)) _ _ (by simp)) _) 1

set_option maxHeartbeats 2000000 in
set_option maxRecDepth 10000 in
theorem loops_bad (nodes : Int) (pv : Value) (ps : List Prt) (w : World) (hb : Base w) (hp : PartsAt w pv ps) (hC : (checkN nodes ps).1 ≠ 0) :
    Calls Tryd.prog 5 #[.agg #[.int .i64 nodes, pv]] w fun e w' => BadE w (checkN nodes ps) e w' := by
  have HB := hide hb
  have HP := hide hp
  obtain ⟨ao, cap, rfl, h1, h2, h3⟩ := hp
  have HC0 := hide hC
  clear h3 hb h2
  go_enter Tryd.func5, Tryd.ntmps5
  go_wp2_with fail
  have gW : w.grownBy ((w.alloc (Obj.cells #[.int .i64 nodes, .slice ao ps.length cap] 24)).alloc (Obj.cells #[.int .i64 0, .int .i64 0] 29)) none := gr_alloc (gr_alloc (gr_refl _ _) _) _
  have GW := hide gW
  clear gW
  refine (tree_bad nodes _ ps _ (HB.out.keep GW.out) (HP.out.keep GW.out) HC0.out).mono ?_
  intro e w1 hE
  obtain ⟨rfl, g1⟩ := hE
  have HG := hide (gr_none GW.out g1)
  have hrr : w1.cell? ⟨w.heap.size + 1, 0, none⟩ = some (.int .i64 0) ∧ w1.cell? ⟨w.heap.size + 1, 1, none⟩ = some (.int .i64 0) ∧ (∀ i, w1.frozen? ⟨w.heap.size + 1, i, none⟩ = false) := by
    have := res_two g1
    simpa using this
  obtain ⟨r0, r1, rf⟩ := hrr
  have rf0 := rf 0
  have rf1 := rf 1
  have hsz : w.heap.size + 1 < w1.heap.size := by have := g1.size; simp at this; omega
  obtain ⟨C, hC'⟩ : ∃ C, C = checkN nodes ps := ⟨_, rfl⟩
  rw [← hC'] at hC ⊢
  obtain ⟨C1, C2⟩ := C
  simp only at hC
  have hz := ne_beq hC
  have HC := hide hC'
  clear rf g1 hC' hC
  go_wp2
  go_region
  go_wp2
  refine bodyPost_ret (v := .tuple #[.slice none 0 0, .agg #[.int .i64 C1, .int .i64 C2]]) (by simp [results, Tryd.results5, go_sem, r0, r1, hsz]) rfl ?_
  refine ⟨?_, ?_⟩
  · rw [← HC.out]
  · exact gr_drewN (gr_alloc (gr_set (gr_set HG.out _ _ (by simp)) _ _ (by simp)) _) 1

set_option maxHeartbeats 2000000 in
set_option maxRecDepth 10000 in
theorem cuts_bad (nodes : Int) (pv : Value) (ps : List Prt) (w : World) (hb : Base w) (hp : PartsAt w pv ps) (hC : (checkN nodes ps).1 ≠ 0) :
    Calls Tryd.prog 6 #[.agg #[.int .i64 nodes, pv]] w fun e w' => BadE w (checkN nodes ps) e w' := by
  have HB := hide hb
  have HP := hide hp
  obtain ⟨ao, cap, rfl, h1, h2, h3⟩ := hp
  have HC0 := hide hC
  clear h3 hb h2
  go_enter Tryd.func6, Tryd.ntmps6
  go_wp2_with fail
  have gW : w.grownBy ((w.alloc (Obj.cells #[.int .i64 nodes, .slice ao ps.length cap] 24)).alloc (Obj.cells #[.int .i64 0, .int .i64 0] 29)) none := gr_alloc (gr_alloc (gr_refl _ _) _) _
  have GW := hide gW
  clear gW
  refine (tree_bad nodes _ ps _ (HB.out.keep GW.out) (HP.out.keep GW.out) HC0.out).mono ?_
  intro e w1 hE
  obtain ⟨rfl, g1⟩ := hE
  have HG := hide (gr_none GW.out g1)
  have hrr : w1.cell? ⟨w.heap.size + 1, 0, none⟩ = some (.int .i64 0) ∧ w1.cell? ⟨w.heap.size + 1, 1, none⟩ = some (.int .i64 0) ∧ (∀ i, w1.frozen? ⟨w.heap.size + 1, i, none⟩ = false) := by
    have := res_two g1
    simpa using this
  obtain ⟨r0, r1, rf⟩ := hrr
  have rf0 := rf 0
  have rf1 := rf 1
  have hsz : w.heap.size + 1 < w1.heap.size := by have := g1.size; simp at this; omega
  obtain ⟨C, hC'⟩ : ∃ C, C = checkN nodes ps := ⟨_, rfl⟩
  rw [← hC'] at hC ⊢
  obtain ⟨C1, C2⟩ := C
  simp only at hC
  have hz := ne_beq hC
  have HC := hide hC'
  clear rf g1 hC' hC
  go_wp2
  go_region
  go_wp2
  refine bodyPost_ret (v := .tuple #[.slice none 0 0, .agg #[.int .i64 C1, .int .i64 C2]]) (by simp [results, Tryd.results6, go_sem, r0, r1, hsz]) rfl ?_
  refine ⟨?_, ?_⟩
  · rw [← HC.out]
  · exact gr_drewN (gr_alloc (gr_set (gr_set HG.out _ _ (by simp)) _ _ (by simp)) _) 1

/-- What Cuts answers of a right net. -/
def CutE (w : World) (ps : List Prt) (e : Ending) (w' : World) : Prop := ∃ v, e = .returned (.tuple #[v, .agg #[.int .i64 0, .int .i64 0]]) ∧ Rows2 w' v (cutsL (prs ps) (treeOf (prs ps))) ∧ w.grownBy w' none

theorem treeUpto_lt (E : List Pr) (k : Nat) : ∀ x ∈ treeUpto E k, x < k := by
  induction k with
  | zero => intro x hx; simp [treeUpto] at hx
  | succ k ih =>
    intro x hx
    unfold treeUpto at hx
    split at hx
    · have := ih x hx; omega
    · rcases List.mem_append.1 hx with h | h
      · have := ih x h; omega
      · have : x = k := by simpa using h
        omega

theorem treeOf_lt (ps : List Prt) : ∀ x ∈ treeOf (prs ps), x < ps.length := by
  intro x hx
  have := treeUpto_lt (prs ps) _ x hx
  simpa [prs] using this

theorem treeOf_len (ps : List Prt) (h : ps.length ≤ 16) : (treeOf (prs ps)).length ≤ 16 := by
  have := treeUpto_len (prs ps) (prs ps).length
  have e : (prs ps).length = ps.length := by simp [prs]
  unfold treeOf
  omega

set_option maxHeartbeats 4000000 in
set_option maxRecDepth 10000 in
theorem cuts_ok (nodes : Int) (pv : Value) (ps : List Prt) (n : Nat) (w : World) (hb : Base w) (hp : PartsAt w pv ps) (hG : Good nodes ps n) (hC : checkN nodes ps = (0, 0)) :
    Calls Tryd.prog 6 #[.agg #[.int .i64 nodes, pv]] w fun e w' => CutE w ps e w' := by
  have HB := hide hb
  have HP := hide hp
  have HG := hide hG
  have HCK := hide hC
  obtain ⟨ao, cap, rfl, h1, h2, h3⟩ := hp
  obtain ⟨rfl, g1, g2, g3, g4⟩ := hG
  clear h3 hb g4 hC h2
  go_enter Tryd.func6, Tryd.ntmps6
  go_wp2_with fail
  have gW : w.grownBy ((w.alloc (Obj.cells #[.int .i64 (n : Nat), .slice ao ps.length cap] 24)).alloc (Obj.cells #[.int .i64 0, .int .i64 0] 29)) none := gr_alloc (gr_alloc (gr_refl _ _) _) _
  have GW := hide gW
  clear gW
  refine (tree_ok (n : Nat) _ ps n _ (HB.out.keep GW.out) (HP.out.keep GW.out) HG.out HCK.out).mono ?_
  intro e w1 hE
  obtain ⟨tv, rfl, k0, k1⟩ := hE
  obtain ⟨to_, tc, te, _⟩ := k0
  have K0 : Hid (RowG nv w1 tv (treeOf (prs ps))) := ⟨to_, tc, te, ‹_›⟩
  subst te
  have K1 := hide k1
  have b0 := k1.cell (a := ⟨w.heap.size, 0, none⟩) (v := .int .i64 (n : Nat)) (by go_simp) (by simp)
  have b1 := k1.cell (a := ⟨w.heap.size, 1, none⟩) (v := .slice ao ps.length cap) (by go_simp) (by simp)
  have hsz : w.heap.size + 1 < w1.heap.size := by have := k1.size; simp at this; omega
  have hsz0 : w.heap.size < w1.heap.size := by omega
  have RES : Hid (∀ wr : World, ((w.alloc (Obj.cells #[.int .i64 (n : Nat), .slice ao ps.length cap] 24)).alloc (Obj.cells #[.int .i64 0, .int .i64 0] 29)).grownBy wr none → wr.cell? ⟨w.heap.size + 1, 0, none⟩ = some (.int .i64 0) ∧ wr.cell? ⟨w.heap.size + 1, 1, none⟩ = some (.int .i64 0) ∧ (∀ i, wr.frozen? ⟨w.heap.size + 1, i, none⟩ = false)) := by
    intro wr hg
    have := res_two hg
    simpa using this
  clear k1
  rename_i hjunk
  clear hjunk
  go_wp2_with fail
  refine (cutsOf_at n _ _ ps (treeOf (prs ps)) _ (HP.out.keep (gr_none GW.out (gr_alloc K1.out _))) HG.out (K0.out.keep (gr_alloc (gr_refl _ _) _)) (treeOf_lt ps) (treeOf_len ps g3)).mono ?_
  intro e w2 hC2
  obtain ⟨cv, rfl, c1, c2⟩ := hC2
  have G2 := hide (gr_none (gr_alloc K1.out _) c2)
  obtain ⟨r0, r1, rf⟩ := RES.out w2 G2.out
  have rf0 := rf 0
  have rf1 := rf 1
  obtain ⟨vals, v1, v2, v3⟩ := c1
  have C1 : Hid (Own2 w2 (w1.alloc (Obj.cells #[Value.int IntKind.i64 0, Value.int IntKind.i64 0] 29)).heap.size cv (cutsL (prs ps) (treeOf (prs ps)))) := ⟨vals, v1, v2, v3⟩
  obtain ⟨co, cc, ce⟩ := v1.shape
  subst ce
  clear v1 v2 v3 c2 rf b0 b1 RES
  go_wp2
  refine bodyPost_ret (v := .tuple #[.slice co vals.length cc, .agg #[.int .i64 0, .int .i64 0]]) (by simp [results, Tryd.results6, go_sem, r0, r1]) rfl ?_
  refine ⟨_, rfl, ?_, gr_set (gr_set (gr_none GW.out G2.out) _ _ (by simp)) _ _ (by simp)⟩
  exact (C1.out.keepB (gr_row (gr_row (gr_refl w2 _) (w.heap.size + 1) 0 (.int .i64 0) rfl) (w.heap.size + 1) 1 (.int .i64 0) rfl) (by simp; omega)).rows
end Go.Proofs.YtfhamfgcjdhmdaaDoor
