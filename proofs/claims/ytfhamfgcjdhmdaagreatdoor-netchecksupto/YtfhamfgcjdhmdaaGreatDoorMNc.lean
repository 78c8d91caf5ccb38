/- net: loop. -/
import Derived.Test.YtfhamfgcjdhmdaaGreatDoorMNb
namespace Go.Proofs.YtfhamfgcjdhmdaaGreatDoor
open Go.RowKit
set_option linter.unusedVariables false

/-- Slices of slices of whole numbers. -/
def Rows2 (w : World) (v : Value) (css : List (List Int)) : Prop :=
  ∃ vals : List Value, RowG id w v vals ∧ vals.length = css.length ∧ ∀ i (h : i < vals.length) (h' : i < css.length), RowG iv w vals[i] css[i]

theorem Own2.rows {w : World} {base : Nat} {v : Value} {css : List (List Int)} (h : Own2 w base v css) : Rows2 w v css := by
  obtain ⟨vals, h1, h2, h3⟩ := h
  exact ⟨vals, h1.row, h2, fun i hi hi' => (h3 i hi hi').1⟩

theorem Rows2.keep {w w' : World} {v : Value} {css : List (List Int)} (h : Rows2 w v css) (hg : w.grownBy w' none) : Rows2 w' v css := by
  obtain ⟨vals, h1, h2, h3⟩ := h
  exact ⟨vals, h1.keep hg, h2, fun i hi hi' => (h3 i hi hi').keep hg⟩

/-- A loop, when i parts of the tree are done. -/
def loopUpto (m part : Nat) (T : List Nat) (css : List (List Int)) : Nat → List Int
  | 0 => List.replicate m 0
  | i + 1 => (loopUpto m part T css i).set (T.getD i 0) (-((css.getD i []).getD part 0))

def loopVec (m part : Nat) (T : List Nat) (css : List (List Int)) : List Int := (loopUpto m part T css T.length).set part 1

theorem loopUpto_length (m part : Nat) (T : List Nat) (css : List (List Int)) (i : Nat) : (loopUpto m part T css i).length = m := by
  induction i with
  | zero => simp [loopUpto]
  | succ i ih => simp [loopUpto, ih]

def LoopR (W : World) (g m part : Nat) (T : List Nat) (css : List (List Int)) (v : Value) (wr : World) : Prop := ∃ i : Nat, i ≤ T.length ∧ v = .int .i64 i ∧ IArr wr g (loopUpto m part T css i) ∧ W.grownBy wr none

/-- What loop answers. -/
def LoopE (w : World) (m part : Nat) (T : List Nat) (css : List (List Int)) (e : Ending) (w' : World) : Prop := ∃ g, e = .returned (.slice (some ⟨g, 0, none⟩) m m) ∧ IArr w' g (loopVec m part T css) ∧ w.grownBy w' none ∧ w.heap.size ≤ g

set_option maxHeartbeats 4000000 in
set_option maxRecDepth 10000 in
theorem loop_at (nodes : Int) (o : Option Addr) (m pc part : Nat) (tv cv : Value) (T : List Nat) (css : List (List Int)) (w : World) (hT : RowG nv w tv T) (hTl : ∀ x ∈ T, x < m) (hm : m ≤ 16) (hT16 : T.length ≤ 16) (hC : Rows2 w cv css) (hcl : css.length = T.length) (hrow : ∀ i (h : i < css.length), css[i].length = m) (hbd : ∀ i (h : i < css.length), ∀ x ∈ css[i], -1 ≤ x ∧ x ≤ 1) (hpart : part < m) (hpc : m ≤ pc) (hpc2 : pc ≤ maxLen) :
    Calls Tryz.prog 87 #[.agg #[.int .i64 nodes, .slice o m pc], .int .i64 (part : Nat), tv, cv] w fun e w' => LoopE w m part T css e w' := by
  obtain ⟨to_, tc, rfl, t1, t2, t3⟩ := hT
  obtain ⟨vals, ⟨co, cc, rfl, c1, c2, c3⟩, c4, c5⟩ := hC
  unfold maxLen at t2 c2 hpc2
  have HTC := hide t3
  have HTL := hide hTl
  have HC3 := hide c3
  have HC4 := hide c4
  have HC5 := hide c5
  have HCL := hide hcl
  have HROW := hide hrow
  have HBD := hide hbd
  have hvT : vals.length ≤ T.length := by omega
  have hTv : T.length ≤ vals.length := by omega
  clear t3 hTl c3 c4 c5 hcl hrow hbd
  go_enter Tryz.func87, Tryz.ntmps87
  go_wp2_with (at_make; refine wpList_make_g iv 3 0 8 _ rfl _ _ 42 rfl Tryz.underlying42 Tryz.infoInt rfl _ _ _ _ m rfl rfl (by omega) (by omega) (by omega) (by omega) ?_)
  intro w2 harr hgr
  have HR : Hid (IArr w2 (w.heap.size + 1) (List.replicate m 0)) := by first | exact harr | simpa using harr
  have HGR := hide (gr_none (gr_alloc (gr_refl w none) _) hgr)
  clear harr hgr
  go_wp2
  go_loopw [18] (fun v wr => Hid (LoopR w (w.heap.size + 1) m part T css v wr)) (fun v _ => T.length - (intOf v).toNat)
  case atStart => exact ⟨0, by omega, rfl, HR.out, HGR.out⟩
  case round =>
    obtain ⟨i, hi, rfl, l1, l2⟩ := hrel.out
    have L1 := hide l1
    have L2 := hide l2
    clear l1 l2 hrel
    by_cases hlt : i < T.length
    · obtain ⟨tb, toff, rfl, htb, htc⟩ := HTC.out i hlt
      obtain ⟨cb, coff, rfl, hcb, hcc⟩ := HC3.out i (by omega)
      have hci : i < css.length := by rw [HCL.out]; exact hlt
      obtain ⟨ro, rc, re, r1, r2, r3⟩ := HC5.out i (by omega) hci
      have hrl := HROW.out i hci
      obtain ⟨rb, roff, rfl, hrb, hrc⟩ := r3 part (by omega)
      have hxb := HBD.out i hci (css[i][part]'(by omega)) (List.getElem_mem _)
      have htl := HTL.out T[i] (List.getElem_mem hlt)
      have eT : T.getD i 0 = T[i] := by simp [List.getD, hlt]
      have eC : (css.getD i []).getD part 0 = css[i][part]'(by omega) := by
        have : css.getD i [] = css[i] := by simp [List.getD, hci]
        rw [this]
        simp [List.getD, hrl, hpart]
      have qt := L2.out.cell htc (by simp)
      have qc := L2.out.cell hcc (by simp)
      have qr := L2.out.cell hrc (by simp)
      simp only [id] at qc
      rw [re, hrl] at qc
      rw [hrl] at r1
      obtain ⟨x, hx⟩ : ∃ x, x = T[i] := ⟨_, rfl⟩
      obtain ⟨y, hy⟩ : ∃ y, y = css[i][part]'(by omega) := ⟨_, rfl⟩
      rw [← hx] at qt htl eT
      rw [← hy] at qr hxb eC
      obtain ⟨y1, y2⟩ := hxb
      have hfr := L1.out.free x
      obtain ⟨v0, hco⟩ : ∃ v, wr.cell? ⟨w.heap.size + 1, x, none⟩ = some v := ⟨_, L1.out.cell x (by rw [loopUpto_length]; exact htl)⟩
      have ET := hide eT
      have EC := hide eC
      unfold maxLen at r2
      clear htc hcc hrc r3 re hx hy eT eC HTC HC3 HC5 HROW HBD HTL hrl
      go_wp2
      go_roundw
      case rel =>
        refine ⟨i + 1, by omega, by go_num, ?_, gr_set L2.out _ _ (by simp)⟩
        show IArr _ _ ((loopUpto m part T css i).set (T.getD i 0) (-((css.getD i []).getD part 0)))
        rw [ET.out, EC.out]
        exact L1.out.set x (-y) _ (by first | rfl | go_num | simp)
      case measure => simp [intOf]; omega
    · obtain rfl : i = T.length := by omega
      have hfr := L1.out.free part
      obtain ⟨v0, hco⟩ : ∃ v, wr.cell? ⟨w.heap.size + 1, part, none⟩ = some v := ⟨_, L1.out.cell part (by rw [loopUpto_length]; exact hpart)⟩
      clear HTC HC3 HC5 HROW HBD HTL
      go_wp2
      go_ret
      exact ⟨w.heap.size + 1, rfl, L1.out.set part 1 _ rfl, gr_set L2.out _ _ (by simp), by omega⟩
end Go.Proofs.YtfhamfgcjdhmdaaGreatDoor

namespace Go.Proofs.YtfhamfgcjdhmdaaGreatDoor
open Go.RowKit
set_option linter.unusedVariables false

set_option maxHeartbeats 2000000 in
set_option maxRecDepth 10000 in
theorem tree_bad (nodes : Int) (pv : Value) (ps : List Prt) (w : World) (hb : Base w) (hp : PartsAt w pv ps) (hC : (checkN nodes ps).1 ≠ 0) :
    Calls Tryz.prog 20 #[.agg #[.int .i64 nodes, pv]] w fun e w' => BadE w (checkN nodes ps) e w' := by
  have HB := hide hb
  have HP := hide hp
  obtain ⟨ao, cap, rfl, h1, h2, h3⟩ := hp
  clear h3 hb h2
  go_enter Tryz.func20, Tryz.ntmps20
  go_wp2_with fail
  have gW : w.grownBy ((w.alloc (Obj.cells #[.int .i64 nodes, .slice ao ps.length cap] 38)).alloc (Obj.cells #[.int .i64 0, .int .i64 0] 26)) none := gr_alloc (gr_alloc (gr_refl _ _) _) _
  have GW := hide gW
  clear gW
  refine (Check_at nodes _ ps _ (HB.out.keep GW.out) (HP.out.keep GW.out)).mono ?_
  intro e w1 hE
  obtain ⟨rfl, g1⟩ := hE
  have HG := hide (gr_none GW.out g1)
  have hrr : w1.cell? ⟨w.heap.size + 1, 0, none⟩ = some (.int .i64 0) ∧ w1.cell? ⟨w.heap.size + 1, 1, none⟩ = some (.int .i64 0) ∧ (∀ i, w1.frozen? ⟨w.heap.size + 1, i, none⟩ = false) := by
    have := res_two g1
    simpa using this
  obtain ⟨r0, r1, rf⟩ := hrr
  have rf0 := rf 0
  have rf1 := rf 1
  have hsz : w.heap.size + 1 < w1.heap.size := by have := g1.size; simp at this; omega
  obtain ⟨C, hC'⟩ : ∃ C, C = checkN nodes ps := ⟨_, rfl⟩
  rw [← hC'] at hC ⊢
  obtain ⟨C1, C2⟩ := C
  simp only at hC
  have hz := ne_beq hC
  have HC := hide hC'
  clear rf g1 hC' hC
  go_wp2
  go_region
  go_wp2
  refine bodyPost_ret (v := .tuple #[.slice none 0 0, .agg #[.int .i64 C1, .int .i64 C2]]) (by simp [results, Tryz.results20, go_sem, r0, r1, hsz]) rfl ?_
  refine ⟨?_, ?_⟩
  · rw [← HC.out]
  · exact gr_drewN (gr_alloc (gr_set (gr_set HG.out _ _ (by simp)) _ _ (by simp)) _) 1

set_option maxHeartbeats 2000000 in
set_option maxRecDepth 10000 in
theorem loops_bad (nodes : Int) (pv : Value) (ps : List Prt) (w : World) (hb : Base w) (hp : PartsAt w pv ps) (hC : (checkN nodes ps).1 ≠ 0) :
    Calls Tryz.prog 21 #[.agg #[.int .i64 nodes, pv]] w fun e w' => BadE w (checkN nodes ps) e w' := by
  have HB := hide hb
  have HP := hide hp
  obtain ⟨ao, cap, rfl, h1, h2, h3⟩ := hp
  have HC0 := hide hC
  clear h3 hb h2
  go_enter Tryz.func21, Tryz.ntmps21
  go_wp2_with fail
  have gW : w.grownBy ((w.alloc (Obj.cells #[.int .i64 nodes, .slice ao ps.length cap] 38)).alloc (Obj.cells #[.int .i64 0, .int .i64 0] 26)) none := gr_alloc (gr_alloc (gr_refl _ _) _) _
  have GW := hide gW
  clear gW
  refine (tree_bad nodes _ ps _ (HB.out.keep GW.out) (HP.out.keep GW.out) HC0.out).mono ?_
  intro e w1 hE
  obtain ⟨rfl, g1⟩ := hE
  have HG := hide (gr_none GW.out g1)
  have hrr : w1.cell? ⟨w.heap.size + 1, 0, none⟩ = some (.int .i64 0) ∧ w1.cell? ⟨w.heap.size + 1, 1, none⟩ = some (.int .i64 0) ∧ (∀ i, w1.frozen? ⟨w.heap.size + 1, i, none⟩ = false) := by
    have := res_two g1
    simpa using this
  obtain ⟨r0, r1, rf⟩ := hrr
  have rf0 := rf 0
  have rf1 := rf 1
  have hsz : w.heap.size + 1 < w1.heap.size := by have := g1.size; simp at this; omega
  obtain ⟨C, hC'⟩ : ∃ C, C = checkN nodes ps := ⟨_, rfl⟩
  rw [← hC'] at hC ⊢
  obtain ⟨C1, C2⟩ := C
  simp only at hC
  have hz := ne_beq hC
  have HC := hide hC'
  clear rf g1 hC' hC
  go_wp2
  go_region
  go_wp2
  refine bodyPost_ret (v := .tuple #[.slice none 0 0, .agg #[.int .i64 C1, .int .i64 C2]]) (by simp [results, Tryz.results21, go_sem, r0, r1, hsz]) rfl ?_
  refine ⟨?_, ?_⟩
  · rw [← HC.out]
  · exact gr_drewN (gr_alloc (gr_set (gr_set HG.out _ _ (by simp)) _ _ (by simp)) _) 1

set_option maxHeartbeats 2000000 in
set_option maxRecDepth 10000 in
theorem cuts_bad (nodes : Int) (pv : Value) (ps : List Prt) (w : World) (hb : Base w) (hp : PartsAt w pv ps) (hC : (checkN nodes ps).1 ≠ 0) :
    Calls Tryz.prog 22 #[.agg #[.int .i64 nodes, pv]] w fun e w' => BadE w (checkN nodes ps) e w' := by
  have HB := hide hb
  have HP := hide hp
  obtain ⟨ao, cap, rfl, h1, h2, h3⟩ := hp
  have HC0 := hide hC
  clear h3 hb h2
  go_enter Tryz.func22, Tryz.ntmps22
  go_wp2_with fail
  have gW : w.grownBy ((w.alloc (Obj.cells #[.int .i64 nodes, .slice ao ps.length cap] 38)).alloc (Obj.cells #[.int .i64 0, .int .i64 0] 26)) none := gr_alloc (gr_alloc (gr_refl _ _) _) _
  have GW := hide gW
  clear gW
  refine (tree_bad nodes _ ps _ (HB.out.keep GW.out) (HP.out.keep GW.out) HC0.out).mono ?_
  intro e w1 hE
  obtain ⟨rfl, g1⟩ := hE
  have HG := hide (gr_none GW.out g1)
  have hrr : w1.cell? ⟨w.heap.size + 1, 0, none⟩ = some (.int .i64 0) ∧ w1.cell? ⟨w.heap.size + 1, 1, none⟩ = some (.int .i64 0) ∧ (∀ i, w1.frozen? ⟨w.heap.size + 1, i, none⟩ = false) := by
    have := res_two g1
    simpa using this
  obtain ⟨r0, r1, rf⟩ := hrr
  have rf0 := rf 0
  have rf1 := rf 1
  have hsz : w.heap.size + 1 < w1.heap.size := by have := g1.size; simp at this; omega
  obtain ⟨C, hC'⟩ : ∃ C, C = checkN nodes ps := ⟨_, rfl⟩
  rw [← hC'] at hC ⊢
  obtain ⟨C1, C2⟩ := C
  simp only at hC
  have hz := ne_beq hC
  have HC := hide hC'
  clear rf g1 hC' hC
  go_wp2
  go_region
  go_wp2
  refine bodyPost_ret (v := .tuple #[.slice none 0 0, .agg #[.int .i64 C1, .int .i64 C2]]) (by simp [results, Tryz.results22, go_sem, r0, r1, hsz]) rfl ?_
  refine ⟨?_, ?_⟩
  · rw [← HC.out]
  · exact gr_drewN (gr_alloc (gr_set (gr_set HG.out _ _ (by simp)) _ _ (by simp)) _) 1

/-- What Cuts answers of a right net. -/
def CutE (w : World) (ps : List Prt) (e : Ending) (w' : World) : Prop := ∃ v, e = .returned (.tuple #[v, .agg #[.int .i64 0, .int .i64 0]]) ∧ Rows2 w' v (cutsL (prs ps) (treeOf (prs ps))) ∧ w.grownBy w' none

theorem treeUpto_lt (E : List Pr) (k : Nat) : ∀ x ∈ treeUpto E k, x < k := by
  induction k with
  | zero => intro x hx; simp [treeUpto] at hx
  | succ k ih =>
    intro x hx
    unfold treeUpto at hx
    split at hx
    · have := ih x hx; omega
    · rcases List.mem_append.1 hx with h | h
      · have := ih x h; omega
      · have : x = k := by simpa using h
        omega

theorem treeOf_lt (ps : List Prt) : ∀ x ∈ treeOf (prs ps), x < ps.length := by
  intro x hx
  have := treeUpto_lt (prs ps) _ x hx
  simpa [prs] using this

theorem treeOf_len (ps : List Prt) (h : ps.length ≤ 16) : (treeOf (prs ps)).length ≤ 16 := by
  have := treeUpto_len (prs ps) (prs ps).length
  have e : (prs ps).length = ps.length := by simp [prs]
  unfold treeOf
  omega

set_option maxHeartbeats 4000000 in
set_option maxRecDepth 10000 in
theorem cuts_ok (nodes : Int) (pv : Value) (ps : List Prt) (n : Nat) (w : World) (hb : Base w) (hp : PartsAt w pv ps) (hG : Good nodes ps n) (hC : checkN nodes ps = (0, 0)) :
    Calls Tryz.prog 22 #[.agg #[.int .i64 nodes, pv]] w fun e w' => CutE w ps e w' := by
  have HB := hide hb
  have HP := hide hp
  have HG := hide hG
  have HCK := hide hC
  obtain ⟨ao, cap, rfl, h1, h2, h3⟩ := hp
  obtain ⟨rfl, g1, g2, g3, g4⟩ := hG
  clear h3 hb g4 hC h2
  go_enter Tryz.func22, Tryz.ntmps22
  go_wp2_with fail
  have gW : w.grownBy ((w.alloc (Obj.cells #[.int .i64 (n : Nat), .slice ao ps.length cap] 38)).alloc (Obj.cells #[.int .i64 0, .int .i64 0] 26)) none := gr_alloc (gr_alloc (gr_refl _ _) _) _
  have GW := hide gW
  clear gW
  refine (tree_ok (n : Nat) _ ps n _ (HB.out.keep GW.out) (HP.out.keep GW.out) HG.out HCK.out).mono ?_
  intro e w1 hE
  obtain ⟨tv, rfl, k0, k1⟩ := hE
  obtain ⟨to_, tc, te, _⟩ := k0
  have K0 : Hid (RowG nv w1 tv (treeOf (prs ps))) := ⟨to_, tc, te, ‹_›⟩
  subst te
  have K1 := hide k1
  have b0 := k1.cell (a := ⟨w.heap.size, 0, none⟩) (v := .int .i64 (n : Nat)) (by go_simp) (by simp)
  have b1 := k1.cell (a := ⟨w.heap.size, 1, none⟩) (v := .slice ao ps.length cap) (by go_simp) (by simp)
  have hsz : w.heap.size + 1 < w1.heap.size := by have := k1.size; simp at this; omega
  have hsz0 : w.heap.size < w1.heap.size := by omega
  have RES : Hid (∀ wr : World, ((w.alloc (Obj.cells #[.int .i64 (n : Nat), .slice ao ps.length cap] 38)).alloc (Obj.cells #[.int .i64 0, .int .i64 0] 26)).grownBy wr none → wr.cell? ⟨w.heap.size + 1, 0, none⟩ = some (.int .i64 0) ∧ wr.cell? ⟨w.heap.size + 1, 1, none⟩ = some (.int .i64 0) ∧ (∀ i, wr.frozen? ⟨w.heap.size + 1, i, none⟩ = false)) := by
    intro wr hg
    have := res_two hg
    simpa using this
  clear k1
  rename_i hjunk
  clear hjunk
  go_wp2_with fail
  refine (cutsOf_at n _ _ ps (treeOf (prs ps)) _ (HP.out.keep (gr_none GW.out (gr_alloc K1.out _))) HG.out (K0.out.keep (gr_alloc (gr_refl _ _) _)) (treeOf_lt ps) (treeOf_len ps g3)).mono ?_
  intro e w2 hC2
  obtain ⟨cv, rfl, c1, c2⟩ := hC2
  have G2 := hide (gr_none (gr_alloc K1.out _) c2)
  obtain ⟨r0, r1, rf⟩ := RES.out w2 G2.out
  have rf0 := rf 0
  have rf1 := rf 1
  obtain ⟨vals, v1, v2, v3⟩ := c1
  have C1 : Hid (Own2 w2 (w1.alloc (Obj.cells #[Value.int IntKind.i64 0, Value.int IntKind.i64 0] 26)).heap.size cv (cutsL (prs ps) (treeOf (prs ps)))) := ⟨vals, v1, v2, v3⟩
  obtain ⟨co, cc, ce⟩ := v1.shape
  subst ce
  clear v1 v2 v3 c2 rf b0 b1 RES
  go_wp2
  refine bodyPost_ret (v := .tuple #[.slice co vals.length cc, .agg #[.int .i64 0, .int .i64 0]]) (by simp [results, Tryz.results22, go_sem, r0, r1]) rfl ?_
  refine ⟨_, rfl, ?_, gr_set (gr_set (gr_none GW.out G2.out) _ _ (by simp)) _ _ (by simp)⟩
  exact (C1.out.keepB (gr_row (gr_row (gr_refl w2 _) (w.heap.size + 1) 0 (.int .i64 0) rfl) (w.heap.size + 1) 1 (.int .i64 0) rfl) (by simp; omega)).rows
end Go.Proofs.YtfhamfgcjdhmdaaGreatDoor

namespace Go.Proofs.YtfhamfgcjdhmdaaGreatDoor
open Go.RowKit
set_option linter.unusedVariables false

/-- The loops of the first i parts. -/
def loopsUpto (m : Nat) (T : List Nat) (css : List (List Int)) (i : Nat) : List (List Int) := ((List.range i).filter fun x => !(T.contains x)).map fun x => loopVec m x T css

def marks (m : Nat) (T : List Nat) : List Bool := (List.range m).map fun x => T.contains x

theorem marks_length (m : Nat) (T : List Nat) : (marks m T).length = m := by simp [marks]
theorem marks_get (m : Nat) (T : List Nat) (i : Nat) (h : i < (marks m T).length) : (marks m T)[i] = T.contains i := by simp [marks]
theorem marks_set (m : Nat) (T : List Nat) (x : Nat) : (marks m T).set x true = marks m (T ++ [x]) := by
  apply List.ext_getElem
  · simp [marks]
  · intro i h1 h2
    rw [List.getElem_set]
    by_cases e : x = i
    · subst e; simp [marks]
    · have e2 : ¬ i = x := fun h => e h.symm
      simp [marks, e, e2]

theorem loopsUpto_succ (m : Nat) (T : List Nat) (css : List (List Int)) (i : Nat) : loopsUpto m T css (i + 1) = if T.contains i then loopsUpto m T css i else loopsUpto m T css i ++ [loopVec m i T css] := by
  unfold loopsUpto
  rw [List.range_succ, List.filter_append]
  by_cases h : i ∈ T
  · have h2 : T.contains i = true := by simpa using h
    rw [if_pos h2]
    simp [h]
  · have h2 : T.contains i = false := by simpa using h
    rw [if_neg (by rw [h2]; simp)]
    simp [h]

theorem cutRow_bd (E : List Pr) (ps : List Pr) (a : Nat) : ∀ x ∈ cutRow E ps a, -1 ≤ x ∧ x ≤ 1 := by
  intro x hx
  unfold cutRow at hx
  obtain ⟨e, _, rfl⟩ := List.mem_map.1 hx
  have h1 := side_bd E a e.1
  have h2 := side_bd E a e.2
  omega

theorem cutsL_row (E : List Pr) (T : List Nat) (i : Nat) (h : i < (cutsL E T).length) : (cutsL E T)[i].length = E.length ∧ ∀ x ∈ (cutsL E T)[i], -1 ≤ x ∧ x ≤ 1 := by
  have e : (cutsL E T)[i] = cutRow (without E T (T[i]'(by simpa [cutsL] using h))) E (E.getD (T[i]'(by simpa [cutsL] using h)) (0, 0)).1 := by simp [cutsL]
  rw [e]
  exact ⟨by simp [cutRow], cutRow_bd _ _ _⟩

def Mk1R (W : World) (gb m : Nat) (T : List Nat) (v : Value) (wr : World) : Prop := ∃ i : Nat, i ≤ T.length ∧ v = .int .i64 i ∧ BArr wr gb (marks m (T.take i)) ∧ W.grownBy wr none

def LpsR (W : World) (base gb m : Nat) (T : List Nat) (css : List (List Int)) (ov v : Value) (wr : World) : Prop := ∃ i : Nat, i ≤ m ∧ v = .int .i64 i ∧ Own2 wr base ov (loopsUpto m T css i) ∧ BArr wr gb (marks m T) ∧ W.grownBy wr none ∧ base ≤ wr.heap.size

/-- What Loops answers of a right net. -/
def LpsE (w : World) (ps : List Prt) (e : Ending) (w' : World) : Prop := ∃ v, e = .returned (.tuple #[v, .agg #[.int .i64 0, .int .i64 0]]) ∧ Rows2 w' v (loopsUpto ps.length (treeOf (prs ps)) (cutsL (prs ps) (treeOf (prs ps))) ps.length) ∧ w.grownBy w' none

set_option maxHeartbeats 4000000 in
set_option maxRecDepth 10000 in
theorem loops_ok (nodes : Int) (pv : Value) (ps : List Prt) (n : Nat) (w : World) (hb : Base w) (hp : PartsAt w pv ps) (hG : Good nodes ps n) (hC : checkN nodes ps = (0, 0)) :
    Calls Tryz.prog 21 #[.agg #[.int .i64 nodes, pv]] w fun e w' => LpsE w ps e w' := by
  have HB := hide hb
  have HP := hide hp
  have HG := hide hG
  have HCK := hide hC
  obtain ⟨ao, cap, rfl, h1, h2, h3⟩ := hp
  obtain ⟨rfl, g1, g2, g3, g4⟩ := hG
  have h2' := h2
  unfold maxLen at h2'
  have HM := hide h2
  clear h3 hb g4 hC h2
  go_enter Tryz.func21, Tryz.ntmps21
  go_wp2_with fail
  have gW : w.grownBy ((w.alloc (Obj.cells #[.int .i64 (n : Nat), .slice ao ps.length cap] 38)).alloc (Obj.cells #[.int .i64 0, .int .i64 0] 26)) none := gr_alloc (gr_alloc (gr_refl _ _) _) _
  have GW := hide gW
  clear gW
  refine (tree_ok (n : Nat) _ ps n _ (HB.out.keep GW.out) (HP.out.keep GW.out) HG.out HCK.out).mono ?_
  intro e w1 hE
  obtain ⟨tv, rfl, k0, k1⟩ := hE
  obtain ⟨to_, tc, te, kt1, kt2, kt3⟩ := k0
  have K0 : Hid (RowG nv w1 tv (treeOf (prs ps))) := ⟨to_, tc, te, kt1, kt2, kt3⟩
  subst te
  unfold maxLen at kt2
  have K1 := hide k1
  have b0 := k1.cell (a := ⟨w.heap.size, 0, none⟩) (v := .int .i64 (n : Nat)) (by go_simp) (by simp)
  have b1 := k1.cell (a := ⟨w.heap.size, 1, none⟩) (v := .slice ao ps.length cap) (by go_simp) (by simp)
  have hsz : w.heap.size + 1 < w1.heap.size := by have := k1.size; simp at this; omega
  have hsz0 : w.heap.size < w1.heap.size := by omega
  obtain ⟨Wa, hWa⟩ : ∃ W, W = (w.alloc (Obj.cells #[.int .i64 (n : Nat), .slice ao ps.length cap] 38)).alloc (Obj.cells #[.int .i64 0, .int .i64 0] 26) := ⟨_, rfl⟩
  rw [← hWa] at K1 GW
  have RES : Hid (∀ wr : World, Wa.grownBy wr none → wr.cell? ⟨w.heap.size + 1, 0, none⟩ = some (.int .i64 0) ∧ wr.cell? ⟨w.heap.size + 1, 1, none⟩ = some (.int .i64 0) ∧ (∀ i, wr.frozen? ⟨w.heap.size + 1, i, none⟩ = false) ∧ wr.cell? ⟨w.heap.size, 0, none⟩ = some (.int .i64 (n : Nat)) ∧ wr.cell? ⟨w.heap.size, 1, none⟩ = some (.slice ao ps.length cap)) := by
    intro wr hg
    rw [hWa] at hg
    have := res_two hg
    refine ⟨by simpa using this.1, by simpa using this.2.1, by simpa using this.2.2, hg.cell (by go_simp) (by simp), hg.cell (by go_simp) (by simp)⟩
  have hWs : Wa.heap.size = w.heap.size + 2 := by rw [hWa]; simp
  have HWS := hide hWs
  clear k1 hWa hWs kt3
  go_wp2_with fail
  refine (cutsOf_at n _ _ ps (treeOf (prs ps)) _ (HP.out.keep (gr_none GW.out (gr_alloc K1.out _))) HG.out (K0.out.keep (gr_alloc (gr_refl _ _) _)) (treeOf_lt ps) (treeOf_len ps g3)).mono ?_
  intro e w2 hC2
  obtain ⟨cv, rfl, c1, c2⟩ := hC2
  have G2 := hide (gr_none (gr_alloc K1.out _) c2)
  have T2 := hide (K0.out.keep (gr_none (gr_alloc (gr_refl _ _) _) c2))
  have C1 := hide c1.rows
  obtain ⟨vals, v1, v2, v3⟩ := c1
  clear v2 v3
  obtain ⟨co, cc, ce⟩ := v1.shape
  subst ce
  have hT16 := treeOf_len ps g3
  have HTLT := hide (treeOf_lt ps)
  have hcl : (cutsL (prs ps) (treeOf (prs ps))).length = (treeOf (prs ps)).length := by simp [cutsL]
  have hpl : (prs ps).length = ps.length := by simp [prs]
  have HROW : Hid (∀ i (h : i < (cutsL (prs ps) (treeOf (prs ps))).length), (cutsL (prs ps) (treeOf (prs ps)))[i].length = ps.length) := fun i h => by rw [(cutsL_row _ _ i h).1, hpl]
  have HBD : Hid (∀ i (h : i < (cutsL (prs ps) (treeOf (prs ps))).length), ∀ x ∈ (cutsL (prs ps) (treeOf (prs ps)))[i], -1 ≤ x ∧ x ≤ 1) := fun i h => (cutsL_row _ _ i h).2
  have HCL := hide hcl
  generalize hcs : cutsL (prs ps) (treeOf (prs ps)) = css at C1 HCL HROW HBD ⊢
  have HCS := hide hcs
  generalize hT0 : treeOf (prs ps) = T at K0 T2 HTLT hT16 HCL HCS kt1 ⊢
  have HT0 := hide hT0
  clear hcs hT0
  obtain ⟨_, _, _, n0, n1⟩ := RES.out w2 G2.out
  clear v1 c2 b0 b1 hcl hpl K0
  go_wp2_with (at_make; refine wpList_make_g bv 4 false 1 _ rfl _ _ 92 rfl Tryz.underlying92 Tryz.infoBool rfl _ _ _ _ ps.length rfl rfl (by omega) (by omega) (by omega) (by omega) ?_)
  intro w3 harr hgr
  have HR := hide harr
  have HGR := hide hgr
  clear harr hgr n0 n1
  go_wp2
  go_loopw [30] (fun v wr => Hid (Mk1R w2 w2.heap.size ps.length T v wr)) (fun v _ => T.length - (intOf v).toNat)
  case atStart =>
    refine ⟨0, by omega, rfl, ?_, HGR.out⟩
    have e : marks ps.length (T.take 0) = List.replicate ps.length false := by
      apply List.ext_getElem
      · simp [marks]
      · intro i h1 h2; simp [marks]
    rw [e]
    exact HR.out
  case round =>
    obtain ⟨i, hi, rfl, l1, l2⟩ := hrel.out
    have L1 := hide l1
    have L2 := hide l2
    obtain ⟨_, _, _, m0, m1⟩ := RES.out wr (gr_none G2.out l2)
    clear l1 l2 hrel
    by_cases hlt : i < T.length
    · obtain ⟨to2, tc2, te2, _, _, ht3⟩ := T2.out
      simp only [Value.slice.injEq, true_and] at te2
      obtain ⟨rfl, rfl⟩ := te2
      obtain ⟨tb, toff, rfl, htb, htc⟩ := ht3 i hlt
      have htl := HTLT.out T[i] (List.getElem_mem hlt)
      have htk : T.take (i + 1) = T.take i ++ [T[i]] := List.take_succ_eq_append_getElem hlt
      have qt := L2.out.cell htc (by simp)
      obtain ⟨x, hx⟩ : ∃ x, x = T[i] := ⟨_, rfl⟩
      rw [← hx] at qt htl htk
      have HTK := hide htk
      have hfr := L1.out.free x
      obtain ⟨v0, hco⟩ : ∃ v, wr.cell? ⟨w2.heap.size, x, none⟩ = some v := ⟨_, L1.out.cell x (by rw [marks_length]; exact htl)⟩
      clear htc ht3 hx htk HTLT
      go_wp2
      go_roundw
      case rel =>
        refine ⟨i + 1, by omega, by go_num, ?_, gr_set L2.out _ _ (by simp)⟩
        have := L1.out.set x true (.bool true) rfl
        rw [marks_set, ← HTK.out] at this
        exact this
      case measure => simp [intOf]; omega
    · have htk : T.take i = T := List.take_of_length_le (by omega)
      rw [htk] at L1
      clear htk
      have hb5 : w2.heap.size < wr.heap.size := L1.out.lt
      obtain ⟨base, hbase⟩ : ∃ b, b = wr.heap.size := ⟨_, rfl⟩
      rw [← hbase] at hb5
      have HBASE := hide hbase
      clear hbase
      go_wp2
      go_loopw [10, 41] (fun ov v wr => Hid (LpsR w2 base w2.heap.size ps.length T css ov v wr)) (fun _ v _ => ps.length - (intOf v).toNat)
      case atStart => exact ⟨0, by omega, rfl, own2_nil, L1.out, L2.out, by rw [HBASE.out]; exact Nat.le_refl _⟩
      case round =>
        obtain ⟨j, hj, rfl, l1, l2, l3, l4⟩ := hrel.out
        have P1 := hide l1
        have P2 := hide l2
        have P3 := hide l3
        obtain ⟨r0, r1, rf, q0, q1⟩ := RES.out wr (gr_none G2.out l3)
        have rf0 := rf 0
        have rf1 := rf 1
        obtain ⟨vs, v1, v2, v3⟩ := l1
        obtain ⟨oo, oc, oe⟩ := v1.shape
        subst oe
        have V1 := hide v1
        have V2 := hide v2
        have V3 := hide v3
        have hvl : vs.length ≤ j := by
          rw [v2]
          unfold loopsUpto
          rw [List.length_map]
          have := List.length_filter_le (fun x => !(T.contains x)) (List.range j)
          simpa using this
        clear l2 l3 hrel rf v1 v2 v3 L1 L2 m0 m1 HBASE
        by_cases hlt2 : j < ps.length
        · have hcm := P2.out.cell j (by rw [marks_length]; exact hlt2)
          rw [marks_get] at hcm
          have hls := loopsUpto_succ ps.length T css j
          cases hin : T.contains j with
          | true =>
            rw [hin] at hcm hls
            rw [if_pos rfl] at hls
            have HLS := hide hls
            clear hls hin
            go_wp2
            go_roundw
            case rel => exact ⟨j + 1, by omega, by go_num, by rw [HLS.out]; exact P1.out, P2.out, P3.out, l4⟩
            case measure => simp [intOf]; omega
          | false =>
            rw [hin] at hcm hls
            rw [if_neg (by simp)] at hls
            have HLS := hide hls
            clear hls hin
            go_wp2_with fail
            refine (loop_at (n : Nat) _ ps.length cap j _ _ T css _ (T2.out.keep P3.out) HTLT.out g3 hT16 (C1.out.keep P3.out) HCL.out HROW.out HBD.out hlt2 h1 HM.out).mono ?_
            intro e w6 hL
            obtain ⟨gl, rfl, a1, a2, a3⟩ := hL
            have A1 := hide a1
            have A2 := hide a2
            have hgl := a1.lt
            have hs6 := a2.size
            have hlv : (loopVec ps.length j T css).length = ps.length := by simp [loopVec, loopUpto_length]
            have HLV := hide hlv
            clear a1 a2 hlv
            go_wp2_with (at_builtin; refine wpList_append_gl id 42 (.slice none 0 0) 24 _ rfl _ _ 45 rfl base Tryz.underlying45 Tryz.infoInts rfl _ vs rfl (V1.out.keep0 (gr_alloc A2.out _)) w6.heap.size (.slice (some ⟨gl, 0, none⟩) ps.length ps.length) rfl (by go_simp) rfl (by omega) (by omega) (by simp; omega) ?_)
            intro g' cap' w7 o1 o2 o3
            have O1 := hide o1
            have O2 := hide o2
            have O3 := hide o3
            clear o1 o2 o3
            go_wp2
            go_roundw
            case rel =>
              have hgr2 := gr_trans (r := (Value.slice oo vs.length oc).ownBlock) (r1 := none) (gr_alloc (gr_refl w6 none) _) O2.out (fun _ _ e => by cases e) (fun _ _ e => e)
              have hownb : ∀ k, (Value.slice oo vs.length oc).ownBlock = some k → base ≤ k ∧ k < wr.heap.size := fun k hk => V1.out.fresh k hk
              have hrow := RArr.row A1.out (by rw [HLV.out]; unfold maxLen; omega)
              rw [HLV.out] at hrow
              refine ⟨j + 1, by omega, by go_num, ?_, ?_, ?_, ?_⟩
              · rw [HLS.out]
                refine Own2.snoc (w1 := w6) (w := w6) (vals := vs) (ov := .slice oo vs.length oc) V2.out ?_ hrow ⟨_, _, _, rfl⟩ ?_ O1.out hgr2 ?_
                · intro q hq hq'
                  obtain ⟨k1, k2, k3⟩ := V3.out q hq hq'
                  exact ⟨k1.keep A2.out, k2, fun k hk => ⟨(k3 k hk).1, Nat.lt_of_lt_of_le (k3 k hk).2.1 hs6, (k3 k hk).2.2⟩⟩
                · intro k hk
                  have : gl = k := by simpa [Value.ownBlock] using hk
                  subst this
                  refine ⟨by omega, hgl, fun e => ?_⟩
                  have := (hownb gl e.symm).2
                  omega
                · rcases O3.out with h | h
                  · exact .inl h
                  · right
                    rw [h]
                    simp
              · refine (P2.out.keep0 A2.out).keep hgr2 ?_
                intro e
                have := (hownb w2.heap.size e.symm).1
                omega
              · exact gr_trans (gr_none P3.out A2.out) hgr2 (fun _ _ e => e) (fun b hb e => by have := (hownb b e.symm).1; omega)
              · have := hgr2.size
                omega
            case measure => simp [intOf]; omega
        · obtain rfl : j = ps.length := by omega
          go_wp2
          refine bodyPost_ret (v := .tuple #[.slice oo vs.length oc, .agg #[.int .i64 0, .int .i64 0]]) (by simp [results, Tryz.results21, go_sem, r0, r1]) rfl ?_
          refine ⟨_, rfl, ?_, gr_set (gr_set (gr_none GW.out (gr_none G2.out P3.out)) _ _ (by simp)) _ _ (by simp)⟩
          rw [HT0.out, HCS.out]
          exact (P1.out.keepB (gr_row (gr_row (gr_refl wr _) (w.heap.size + 1) 0 (.int .i64 0) rfl) (w.heap.size + 1) 1 (.int .i64 0) rfl) (by have := HWS.out; have := G2.out.size; omega)).rows
end Go.Proofs.YtfhamfgcjdhmdaaGreatDoor

namespace Go.Proofs.YtfhamfgcjdhmdaaGreatDoor
set_option linter.unusedVariables false

theorem treeUpto_prefix (E : List Pr) (k : Nat) : ∀ l, k ≤ l → ∃ S, treeUpto E l = treeUpto E k ++ S ∧ ∀ x ∈ S, k ≤ x := by
  intro l
  induction l with
  | zero =>
    intro h
    have e : k = 0 := by omega
    rw [e]
    exact ⟨[], by simp, by simp⟩
  | succ l ih =>
    intro h
    by_cases e : k = l + 1
    · subst e; exact ⟨[], by simp, by simp⟩
    · obtain ⟨S, h1, h2⟩ := ih (by omega)
      by_cases hc : labF (sel E (treeUpto E l)) (E.getD l (0, 0)).1 = labF (sel E (treeUpto E l)) (E.getD l (0, 0)).2
      · exact ⟨S, by rw [treeUpto, if_pos hc]; exact h1, h2⟩
      · refine ⟨S ++ [l], by rw [treeUpto, if_neg hc, h1]; simp, fun x hx => ?_⟩
        rcases List.mem_append.1 hx with h3 | h3
        · exact h2 x h3
        · have : x = l := by simpa using h3
          omega

theorem treeUpto_nodup (E : List Pr) (k : Nat) : (treeUpto E k).Nodup := by
  induction k with
  | zero => simp [treeUpto]
  | succ k ih =>
    unfold treeUpto
    split
    · exact ih
    · rw [List.nodup_append]
      refine ⟨ih, by simp, ?_⟩
      intro a ha b hb e
      have h1 := treeUpto_lt E k a ha
      have : b = k := by simpa using hb
      omega

theorem sel_append (E : List Pr) (S T : List Nat) : sel E (S ++ T) = sel E S ++ sel E T := by simp [sel]

theorem tree_forest (E : List Pr) (k : Nat) : Forest (sel E (treeUpto E k)) := by
  induction k with
  | zero => exact Forest.nil
  | succ k ih =>
    unfold treeUpto
    split
    · exact ih
    · rename_i h
      rw [sel_append]
      exact Forest.snoc ih h

theorem tree_lab (E : List Pr) (k : Nat) (hk : k ≤ E.length) : labF (E.take k) = labF (sel E (treeUpto E k)) := by
  induction k with
  | zero => rfl
  | succ k ih =>
    have hlt : k < E.length := by omega
    have e : E.take (k + 1) = E.take k ++ [E.getD k (0, 0)] := by
      rw [List.take_succ_eq_append_getElem hlt]
      simp [List.getD, hlt]
    rw [e, labF_snoc, ih (by omega)]
    by_cases h : labF (sel E (treeUpto E k)) (E.getD k (0, 0)).1 = labF (sel E (treeUpto E k)) (E.getD k (0, 0)).2
    · rw [treeUpto, if_pos h, joinF_same _ _ h]
    · rw [treeUpto, if_neg h, sel_append]
      show _ = labF (sel E (treeUpto E k) ++ [E.getD k (0, 0)])
      rw [labF_snoc]

theorem isl_lab (E : List Pr) : labF E = labF (sel E (treeOf E)) := by
  have := tree_lab E E.length (Nat.le_refl _)
  rw [List.take_of_length_le (Nat.le_refl _)] at this
  exact this

/-- A part that isn't in the tree joins what is joined. -/
theorem nontree (E : List Pr) (i : Nat) (hi : i < E.length) (h : i ∉ treeOf E) : labF (sel E (treeOf E)) (E.getD i (0, 0)).1 = labF (sel E (treeOf E)) (E.getD i (0, 0)).2 := by
  obtain ⟨S, h1, _⟩ := treeUpto_prefix E (i + 1) E.length (by omega)
  have h2 : i ∉ treeUpto E (i + 1) := by
    intro e
    apply h
    unfold treeOf
    rw [h1]
    exact List.mem_append.2 (.inl e)
  by_cases hc : labF (sel E (treeUpto E i)) (E.getD i (0, 0)).1 = labF (sel E (treeUpto E i)) (E.getD i (0, 0)).2
  · obtain ⟨S2, h3, _⟩ := treeUpto_prefix E i E.length (by omega)
    unfold treeOf
    rw [h3, sel_append]
    exact lab_mono _ _ _ _ hc
  · exfalso
    apply h2
    rw [treeUpto, if_neg hc]
    simp

theorem countP_mem (m : Nat) : ∀ (T : List Nat), T.Nodup → (∀ x ∈ T, x < m) → (List.range m).countP (fun x => T.contains x) = T.length := by
  intro T
  induction T with
  | nil => intro _ _; simp
  | cons t r ih =>
    intro hn hm
    rw [List.nodup_cons] at hn
    have h1 := ih hn.2 (fun x hx => hm x (by simp [hx]))
    have h2 := countP_drop m (fun x => (t :: r).contains x) (fun x => r.contains x) t (hm t (by simp)) (by simp) (by simpa using hn.1) (by
      intro x hx
      simp [hx])
    rw [List.length_cons]
    omega

/-- As many loops as parts, less those of the tree. -/
theorem loops_count (m : Nat) (T : List Nat) (css : List (List Int)) (hn : T.Nodup) (hm : ∀ x ∈ T, x < m) : (loopsUpto m T css m).length + T.length = m := by
  unfold loopsUpto
  rw [List.length_map, ← List.countP_eq_length_filter]
  have h1 := countP_mem m T hn hm
  have h2 : ∀ l : List Nat, l.countP (fun x => !(T.contains x)) + l.countP (fun x => T.contains x) = l.length := by
    intro l
    induction l with
    | nil => rfl
    | cons a r ih =>
      rw [List.countP_cons, List.countP_cons, List.length_cons]
      have h3 : (if (!(T.contains a)) = true then 1 else 0) + (if T.contains a = true then 1 else 0) = 1 := by cases T.contains a <;> rfl
      omega
  have h3 := h2 (List.range m)
  rw [List.length_range] at h3
  omega

theorem comb_set (c : List Int) (E : List Pr) (t : Nat) (v : Int) (s : Nat → Int) (hc : c.length = E.length) (ht : t < E.length) : comb (c.set t v) E s = comb c E s + (v - c.getD t 0) * (s (E.getD t (0, 0)).1 - s (E.getD t (0, 0)).2) := by
  induction E generalizing c t with
  | nil => simp at ht
  | cons p q ih =>
    match c with
    | [] => simp at hc
    | x :: c =>
      cases t with
      | zero =>
        simp only [List.set_cons_zero, comb, List.getD_cons_zero]
        rw [Int.sub_mul]
        omega
      | succ t =>
        simp only [List.set_cons_succ, comb, List.getD_cons_succ]
        rw [ih c t (by simpa using hc) (by simpa using ht)]
        omega

/-- What the first i parts of the tree bring to a loop. -/
theorem loopUpto_get (m part : Nat) (T : List Nat) (css : List (List Int)) (i x : Nat) (hx : ∀ j, j < i → T.getD j 0 ≠ x) : (loopUpto m part T css i).getD x 0 = 0 := by
  induction i with
  | zero =>
    simp only [loopUpto, List.getD]
    by_cases h : x < m
    · simp [h]
    · simp [h]
  | succ i ih =>
    have h1 := hx i (by omega)
    show ((loopUpto m part T css i).set (T.getD i 0) (-((css.getD i []).getD part 0))).getD x 0 = 0
    rw [List.getD_eq_getElem?_getD, List.getElem?_set_ne h1, ← List.getD_eq_getElem?_getD]
    exact ih (fun j hj => hx j (by omega))

/-- What the cuts say of one part. -/
def col (css : List (List Int)) (e : Nat) : List Int := css.map fun c => c.getD e 0

theorem getD_inj {T : List Nat} (hn : T.Nodup) {i j : Nat} (hi : i < T.length) (hj : j < T.length) (h : T.getD i 0 = T.getD j 0) : i = j := by
  have e1 : T.getD i 0 = T[i] := by simp [List.getD, hi]
  have e2 : T.getD j 0 = T[j] := by simp [List.getD, hj]
  rw [e1, e2] at h
  have hp := List.pairwise_iff_getElem.1 hn
  rcases Nat.lt_trichotomy i j with h1 | h1 | h1
  · exact absurd h (hp i j hi hj h1)
  · exact h1
  · exact absurd h.symm (hp j i hj hi h1)

theorem loopUpto_comb (E : List Pr) (part : Nat) (T : List Nat) (css : List (List Int)) (s : Nat → Int) (hn : T.Nodup) (hT : ∀ x ∈ T, x < E.length) (hc : css.length = T.length) : ∀ i, i ≤ T.length → comb (loopUpto E.length part T css i) E s = - comb ((col css part).take i) ((sel E T).take i) s := by
  intro i
  induction i with
  | zero =>
    intro _
    simp only [loopUpto, List.take_zero]
    have := comb_zero E s
    rw [this]
    rfl
  | succ i ih =>
    intro hi
    have hlt : i < T.length := by omega
    have eT : T.getD i 0 = T[i] := by simp [List.getD, hlt]
    have hti : T.getD i 0 < E.length := by rw [eT]; exact hT _ (List.getElem_mem hlt)
    rw [loopUpto, comb_set _ _ _ _ _ (loopUpto_length _ _ _ _ _) hti, ih (by omega), loopUpto_get]
    · have e1 : (col css part).take (i + 1) = (col css part).take i ++ [(css.getD i []).getD part 0] := by
        rw [List.take_succ_eq_append_getElem (by simp [col]; omega)]
        have hci : i < css.length := by omega
        simp [col, List.getD, hci]
      have e2 : (sel E T).take (i + 1) = (sel E T).take i ++ [E.getD (T.getD i 0) (0, 0)] := by
        rw [List.take_succ_eq_append_getElem (by simp [sel]; omega)]
        simp [sel, hlt]
      rw [e1, e2, comb_append _ _ _ _ _ (by simp [col, sel]; omega)]
      simp only [comb]
      rw [Int.sub_zero, Int.neg_mul]
      omega
    · intro j hj e
      have := getD_inj hn (by omega) hlt e
      omega

/-- The cuts of a forest, by hand and by numbers. -/
theorem col_cuts (E : List Pr) (e : Nat) (he : e < E.length) : ∀ (R P : List Nat), (P ++ R).Nodup → (∀ x ∈ P ++ R, x < E.length) →
    R.map (fun t => (cutRow (without E (P ++ R) t) E (E.getD t (0, 0)).1).getD e 0) = cutsAt (sel E P) (sel E R) (E.getD e (0, 0)) := by
  intro R
  induction R with
  | nil => intro P _ _; rfl
  | cons t R ih =>
    intro P hn hl
    have h1 : without E (P ++ t :: R) t = sel E P ++ sel E R := by
      unfold without
      rw [List.nodup_append] at hn
      obtain ⟨n1, n2, n3⟩ := hn
      rw [List.nodup_cons] at n2
      rw [List.filter_append, List.filter_cons]
      have hP : P.filter (fun x => x != t) = P := by
        rw [List.filter_eq_self]
        intro x hx
        simp only [bne_iff_ne]
        exact fun e => n3 x hx t (by simp) e
      have hR : R.filter (fun x => x != t) = R := by
        rw [List.filter_eq_self]
        intro x hx
        simp only [bne_iff_ne]
        exact fun e => n2.1 (e ▸ hx)
      rw [hP, hR]
      simp [sel]
    have h2 := ih (P ++ [t]) (by simpa using hn) (by simpa using hl)
    simp only [List.append_assoc, List.singleton_append] at h2
    rw [List.map_cons, h1, h2]
    show _ = cutOf (sel E P) (sel E R) (E.getD t (0, 0)) (E.getD e (0, 0)) :: cutsAt (sel E P ++ [E.getD t (0, 0)]) (sel E R) (E.getD e (0, 0))
    rw [sel_append]
    congr 1
    · unfold cutRow cutOf
      simp [List.getD, he]

/-- Each loop comes back, whatever is asked of the nodes. -/
theorem loop_zero (E : List Pr) (e : Nat) (he : e < E.length) (hnt : e ∉ treeOf E) (s : Nat → Int) : comb (loopVec E.length e (treeOf E) (cutsL E (treeOf E))) E s = 0 := by
  have hn : (treeOf E).Nodup := treeUpto_nodup E E.length
  have hl : ∀ x ∈ treeOf E, x < E.length := treeUpto_lt E E.length
  have hcl : (cutsL E (treeOf E)).length = (treeOf E).length := by simp [cutsL]
  unfold loopVec
  rw [comb_set _ _ _ _ _ (loopUpto_length _ _ _ _ _) he, loopUpto_comb E e (treeOf E) (cutsL E (treeOf E)) s hn hl hcl _ (Nat.le_refl _), loopUpto_get]
  · have e1 : (col (cutsL E (treeOf E)) e).take (treeOf E).length = cutsAt [] (sel E (treeOf E)) (E.getD e (0, 0)) := by
      rw [List.take_of_length_le (by simp [col, cutsL])]
      have := col_cuts E e he (treeOf E) [] (by simpa using hn) (by simpa using hl)
      rw [← show sel E [] = [] from rfl, ← this]
      simp [col, cutsL]
    have e2 : (sel E (treeOf E)).take (treeOf E).length = sel E (treeOf E) := List.take_of_length_le (by simp [sel])
    rw [e1, e2, ← loop_back (sel E (treeOf E)) (tree_forest E E.length) (E.getD e (0, 0)) (nontree E e he hnt) s]
    omega
  · intro j hj h
    apply hnt
    have : (treeOf E).getD j 0 = (treeOf E)[j] := by simp [List.getD, hj]
    rw [← h, this]
    exact List.getElem_mem hj

/-- As many islands as nodes, less the tree's parts. -/
theorem roots_net (E : List Pr) (n : Nat) (hE : ∀ p ∈ E, p.1 < n ∧ p.2 < n) : roots n (labF E) + (treeOf E).length = n := by
  have hl : ∀ x ∈ treeOf E, x < E.length := treeUpto_lt E E.length
  rw [isl_lab E]
  have := roots_forest n _ (sel E (treeOf E)) rfl (tree_forest E E.length) (by
    intro p hp
    obtain ⟨i, hi, rfl⟩ := List.mem_map.1 hp
    have h1 := hl i hi
    have : E.getD i (0, 0) = E[i] := by simp [List.getD, h1]
    rw [this]
    exact hE _ (List.getElem_mem h1))
  have e : (sel E (treeOf E)).length = (treeOf E).length := by simp [sel]
  omega
end Go.Proofs.YtfhamfgcjdhmdaaGreatDoor
