/- net: Loops. -/
import Derived.Test.YtfhamfgcjdhmdaaDoorNBad
namespace Go.Proofs.YtfhamfgcjdhmdaaDoor
open Go.RowKit
set_option linter.unusedVariables false

/-- The loops of the first i parts. -/
def loopsUpto (m : Nat) (T : List Nat) (css : List (List Int)) (i : Nat) : List (List Int) := ((List.range i).filter fun x => !(T.contains x)).map fun x => loopVec m x T css

def marks (m : Nat) (T : List Nat) : List Bool := (List.range m).map fun x => T.contains x

theorem marks_length (m : Nat) (T : List Nat) : (marks m T).length = m := by simp [marks]
theorem marks_get (m : Nat) (T : List Nat) (i : Nat) (h : i < (marks m T).length) : (marks m T)[i] = T.contains i := by simp [marks]
theorem marks_set (m : Nat) (T : List Nat) (x : Nat) : (marks m T).set x true = marks m (T ++ [x]) := by
  apply List.ext_getElem
  · simp [marks]
  · intro i h1 h2
    rw [List.getElem_set]
    by_cases e : x = i
    · subst e; simp [marks]
    · have e2 : ¬ i = x := fun h => e h.symm
      simp [marks, e, e2]

theorem loopsUpto_succ (m : Nat) (T : List Nat) (css : List (List Int)) (i : Nat) : loopsUpto m T css (i + 1) = if T.contains i then loopsUpto m T css i else loopsUpto m T css i ++ [loopVec m i T css] := by
  unfold loopsUpto
  rw [List.range_succ, List.filter_append]
  by_cases h : i ∈ T
  · have h2 : T.contains i = true := by simpa using h
    rw [if_pos h2]
    simp [h]
  · have h2 : T.contains i = false := by simpa using h
    rw [if_neg (by rw [h2]; simp)]
    simp [h]

theorem cutRow_bd (E : List Pr) (ps : List Pr) (a : Nat) : ∀ x ∈ cutRow E ps a, -1 ≤ x ∧ x ≤ 1 := by
  intro x hx
  unfold cutRow at hx
  obtain ⟨e, _, rfl⟩ := List.mem_map.1 hx
  have h1 := side_bd E a e.1
  have h2 := side_bd E a e.2
  omega

theorem cutsL_row (E : List Pr) (T : List Nat) (i : Nat) (h : i < (cutsL E T).length) : (cutsL E T)[i].length = E.length ∧ ∀ x ∈ (cutsL E T)[i], -1 ≤ x ∧ x ≤ 1 := by
  have e : (cutsL E T)[i] = cutRow (without E T (T[i]'(by simpa [cutsL] using h))) E (E.getD (T[i]'(by simpa [cutsL] using h)) (0, 0)).1 := by simp [cutsL]
  rw [e]
  exact ⟨by simp [cutRow], cutRow_bd _ _ _⟩

def Mk1R (W : World) (gb m : Nat) (T : List Nat) (v : Value) (wr : World) : Prop := ∃ i : Nat, i ≤ T.length ∧ v = .int .i64 i ∧ BArr wr gb (marks m (T.take i)) ∧ W.grownBy wr none

def LpsR (W : World) (base gb m : Nat) (T : List Nat) (css : List (List Int)) (ov v : Value) (wr : World) : Prop := ∃ i : Nat, i ≤ m ∧ v = .int .i64 i ∧ Own2 wr base ov (loopsUpto m T css i) ∧ BArr wr gb (marks m T) ∧ W.grownBy wr none ∧ base ≤ wr.heap.size

/-- What Loops answers of a right net. -/
def LpsE (w : World) (ps : List Prt) (e : Ending) (w' : World) : Prop := ∃ v, e = .returned (.tuple #[v, .agg #[.int .i64 0, .int .i64 0]]) ∧ Rows2 w' v (loopsUpto ps.length (treeOf (prs ps)) (cutsL (prs ps) (treeOf (prs ps))) ps.length) ∧ w.grownBy w' none

set_option maxHeartbeats 4000000 in
set_option maxRecDepth 10000 in
theorem loops_ok (nodes : Int) (pv : Value) (ps : List Prt) (n : Nat) (w : World) (hb : Base w) (hp : PartsAt w pv ps) (hG : Good nodes ps n) (hC : checkN nodes ps = (0, 0)) :
    Calls Tryd.prog 5 #[.agg #[.int .i64 nodes, pv]] w fun e w' => LpsE w ps e w' := by
  have HB := hide hb
  have HP := hide hp
  have HG := hide hG
  have HCK := hide hC
  obtain ⟨ao, cap, rfl, h1, h2, h3⟩ := hp
  obtain ⟨rfl, g1, g2, g3, g4⟩ := hG
  have h2' := h2
  unfold maxLen at h2'
  have HM := hide h2
  clear h3 hb g4 hC h2
  go_enter Tryd.func5, Tryd.ntmps5
  go_wp2_with fail
  have gW : w.grownBy ((w.alloc (Obj.cells #[.int .i64 (n : Nat), .slice ao ps.length cap] 24)).alloc (Obj.cells #[.int .i64 0, .int .i64 0] 29)) none := gr_alloc (gr_alloc (gr_refl _ _) _) _
  have GW := hide gW
  clear gW
  refine (tree_ok (n : Nat) _ ps n _ (HB.out.keep GW.out) (HP.out.keep GW.out) HG.out HCK.out).mono ?_
  intro e w1 hE
  obtain ⟨tv, rfl, k0, k1⟩ := hE
  obtain ⟨to_, tc, te, kt1, kt2, kt3⟩ := k0
  have K0 : Hid (RowG nv w1 tv (treeOf (prs ps))) := ⟨to_, tc, te, kt1, kt2, kt3⟩
  subst te
  unfold maxLen at kt2
  have K1 := hide k1
  have b0 := k1.cell (a := ⟨w.heap.size, 0, none⟩) (v := .int .i64 (n : Nat)) (by go_simp) (by simp)
  have b1 := k1.cell (a := ⟨w.heap.size, 1, none⟩) (v := .slice ao ps.length cap) (by go_simp) (by simp)
  have hsz : w.heap.size + 1 < w1.heap.size := by have := k1.size; simp at this; omega
  have hsz0 : w.heap.size < w1.heap.size := by omega
  obtain ⟨Wa, hWa⟩ : ∃ W, W = (w.alloc (Obj.cells #[.int .i64 (n : Nat), .slice ao ps.length cap] 24)).alloc (Obj.cells #[.int .i64 0, .int .i64 0] 29) := ⟨_, rfl⟩
  rw [← hWa] at K1 GW
  have RES : Hid (∀ wr : World, Wa.grownBy wr none → wr.cell? ⟨w.heap.size + 1, 0, none⟩ = some (.int .i64 0) ∧ wr.cell? ⟨w.heap.size + 1, 1, none⟩ = some (.int .i64 0) ∧ (∀ i, wr.frozen? ⟨w.heap.size + 1, i, none⟩ = false) ∧ wr.cell? ⟨w.heap.size, 0, none⟩ = some (.int .i64 (n : Nat)) ∧ wr.cell? ⟨w.heap.size, 1, none⟩ = some (.slice ao ps.length cap)) := by
    intro wr hg
    rw [hWa] at hg
    have := res_two hg
    refine ⟨by simpa using this.1, by simpa using this.2.1, by simpa using this.2.2, hg.cell (by go_simp) (by simp), hg.cell (by go_simp) (by simp)⟩
  have hWs : Wa.heap.size = w.heap.size + 2 := by rw [hWa]; simp
  have HWS := hide hWs
  clear k1 hWa hWs kt3
  go_wp2_with fail
  refine (cutsOf_at n _ _ ps (treeOf (prs ps)) _ (HP.out.keep (gr_none GW.out (gr_alloc K1.out _))) HG.out (K0.out.keep (gr_alloc (gr_refl _ _) _)) (treeOf_lt ps) (treeOf_len ps g3)).mono ?_
  intro e w2 hC2
  obtain ⟨cv, rfl, c1, c2⟩ := hC2
  have G2 := hide (gr_none (gr_alloc K1.out _) c2)
  have T2 := hide (K0.out.keep (gr_none (gr_alloc (gr_refl _ _) _) c2))
  have C1 := hide c1.rows
  obtain ⟨vals, v1, v2, v3⟩ := c1
  clear v2 v3
  obtain ⟨co, cc, ce⟩ := v1.shape
  subst ce
  have hT16 := treeOf_len ps g3
  have HTLT := hide (treeOf_lt ps)
  have hcl : (cutsL (prs ps) (treeOf (prs ps))).length = (treeOf (prs ps)).length := by simp [cutsL]
  have hpl : (prs ps).length = ps.length := by simp [prs]
  have HROW : Hid (∀ i (h : i < (cutsL (prs ps) (treeOf (prs ps))).length), (cutsL (prs ps) (treeOf (prs ps)))[i].length = ps.length) := fun i h => by rw [(cutsL_row _ _ i h).1, hpl]
  have HBD : Hid (∀ i (h : i < (cutsL (prs ps) (treeOf (prs ps))).length), ∀ x ∈ (cutsL (prs ps) (treeOf (prs ps)))[i], -1 ≤ x ∧ x ≤ 1) := fun i h => (cutsL_row _ _ i h).2
  have HCL := hide hcl
  generalize hcs : cutsL (prs ps) (treeOf (prs ps)) = css at C1 HCL HROW HBD ⊢
  have HCS := hide hcs
  generalize hT0 : treeOf (prs ps) = T at K0 T2 HTLT hT16 HCL HCS kt1 ⊢
  have HT0 := hide hT0
  clear hcs hT0
  obtain ⟨_, _, _, n0, n1⟩ := RES.out w2 G2.out
  clear v1 c2 b0 b1 hcl hpl K0
  go_wp2_with (at_make; refine wpList_make_g bv 4 false 1 _ rfl _ _ 43 rfl Tryd.underlying43 Tryd.infoBool rfl _ _ _ _ ps.length rfl rfl (by omega) (by omega) (by omega) (by omega) ?_)
  intro w3 harr hgr
  have HR := hide harr
  have HGR := hide hgr
  clear harr hgr n0 n1
  go_wp2
  go_loopw [30] (fun v wr => Hid (Mk1R w2 w2.heap.size ps.length T v wr)) (fun v _ => T.length - (intOf v).toNat)
  case atStart =>
    refine ⟨0, by omega, rfl, ?_, HGR.out⟩
    have e : marks ps.length (T.take 0) = List.replicate ps.length false := by
      apply List.ext_getElem
      · simp [marks]
      · intro i h1 h2; simp [marks]
    rw [e]
    exact HR.out
  case round =>
    obtain ⟨i, hi, rfl, l1, l2⟩ := hrel.out
    have L1 := hide l1
    have L2 := hide l2
    obtain ⟨_, _, _, m0, m1⟩ := RES.out wr (gr_none G2.out l2)
    clear l1 l2 hrel
    by_cases hlt : i < T.length
    · obtain ⟨to2, tc2, te2, _, _, ht3⟩ := T2.out
      simp only [Value.slice.injEq, true_and] at te2
      obtain ⟨rfl, rfl⟩ := te2
      obtain ⟨tb, toff, rfl, htb, htc⟩ := ht3 i hlt
      have htl := HTLT.out T[i] (List.getElem_mem hlt)
      have htk : T.take (i + 1) = T.take i ++ [T[i]] := List.take_succ_eq_append_getElem hlt
      have qt := L2.out.cell htc (by simp)
      obtain ⟨x, hx⟩ : ∃ x, x = T[i] := ⟨_, rfl⟩
      rw [← hx] at qt htl htk
      have HTK := hide htk
      have hfr := L1.out.free x
      obtain ⟨v0, hco⟩ : ∃ v, wr.cell? ⟨w2.heap.size, x, none⟩ = some v := ⟨_, L1.out.cell x (by rw [marks_length]; exact htl)⟩
      clear htc ht3 hx htk HTLT
      go_wp2
      go_roundw
      case rel =>
        refine ⟨i + 1, by omega, by go_num, ?_, gr_set L2.out _ _ (by simp)⟩
        have := L1.out.set x true (.bool true) rfl
        rw [marks_set, ← HTK.out] at this
        exact this
      case measure => simp [intOf]; omega
    · have htk : T.take i = T := List.take_of_length_le (by omega)
      rw [htk] at L1
      clear htk
      have hb5 : w2.heap.size < wr.heap.size := L1.out.lt
      obtain ⟨base, hbase⟩ : ∃ b, b = wr.heap.size := ⟨_, rfl⟩
      rw [← hbase] at hb5
      have HBASE := hide hbase
      clear hbase
      go_wp2
      go_loopw [10, 41] (fun ov v wr => Hid (LpsR w2 base w2.heap.size ps.length T css ov v wr)) (fun _ v _ => ps.length - (intOf v).toNat)
      case atStart => exact ⟨0, by omega, rfl, own2_nil, L1.out, L2.out, by rw [HBASE.out]; exact Nat.le_refl _⟩
      case round =>
        obtain ⟨j, hj, rfl, l1, l2, l3, l4⟩ := hrel.out
        have P1 := hide l1
        have P2 := hide l2
        have P3 := hide l3
        obtain ⟨r0, r1, rf, q0, q1⟩ := RES.out wr (gr_none G2.out l3)
        have rf0 := rf 0
        have rf1 := rf 1
        obtain ⟨vs, v1, v2, v3⟩ := l1
        obtain ⟨oo, oc, oe⟩ := v1.shape
        subst oe
        have V1 := hide v1
        have V2 := hide v2
        have V3 := hide v3
        have hvl : vs.length ≤ j := by
          rw [v2]
          unfold loopsUpto
          rw [List.length_map]
          have := List.length_filter_le (fun x => !(T.contains x)) (List.range j)
          simpa using this
        clear l2 l3 hrel rf v1 v2 v3 L1 L2 m0 m1 HBASE
        by_cases hlt2 : j < ps.length
        · have hcm := P2.out.cell j (by rw [marks_length]; exact hlt2)
          rw [marks_get] at hcm
          have hls := loopsUpto_succ ps.length T css j
          cases hin : T.contains j with
          | true =>
            rw [hin] at hcm hls
            rw [if_pos rfl] at hls
            have HLS := hide hls
            clear hls hin
            go_wp2
            go_roundw
            case rel => exact ⟨j + 1, by omega, by go_num, by rw [HLS.out]; exact P1.out, P2.out, P3.out, l4⟩
            case measure => simp [intOf]; omega
          | false =>
            rw [hin] at hcm hls
            rw [if_neg (by simp)] at hls
            have HLS := hide hls
            clear hls hin
            go_wp2_with fail
            refine (loop_at (n : Nat) _ ps.length cap j _ _ T css _ (T2.out.keep P3.out) HTLT.out g3 hT16 (C1.out.keep P3.out) HCL.out HROW.out HBD.out hlt2 h1 HM.out).mono ?_
            intro e w6 hL
            obtain ⟨gl, rfl, a1, a2, a3⟩ := hL
            have A1 := hide a1
            have A2 := hide a2
            have hgl := a1.lt
            have hs6 := a2.size
            have hlv : (loopVec ps.length j T css).length = ps.length := by simp [loopVec, loopUpto_length]
            have HLV := hide hlv
            clear a1 a2 hlv
            go_wp2_with (at_builtin; refine wpList_append_gl id 32 (.slice none 0 0) 24 _ rfl _ _ 26 rfl base Tryd.underlying26 Tryd.infoInts rfl _ vs rfl (V1.out.keep0 (gr_alloc A2.out _)) w6.heap.size (.slice (some ⟨gl, 0, none⟩) ps.length ps.length) rfl (by go_simp) rfl (by omega) (by omega) (by simp; omega) ?_)
            intro g' cap' w7 o1 o2 o3
            have O1 := hide o1
            have O2 := hide o2
            have O3 := hide o3
            clear o1 o2 o3
            go_wp2
            go_roundw
            case rel =>
              have hgr2 := gr_trans (r := (Value.slice oo vs.length oc).ownBlock) (r1 := none) (gr_alloc (gr_refl w6 none) _) O2.out (fun _ _ e => by cases e) (fun _ _ e => e)
              have hownb : ∀ k, (Value.slice oo vs.length oc).ownBlock = some k → base ≤ k ∧ k < wr.heap.size := fun k hk => V1.out.fresh k hk
              have hrow := RArr.row A1.out (by rw [HLV.out]; unfold maxLen; omega)
              rw [HLV.out] at hrow
              refine ⟨j + 1, by omega, by go_num, ?_, ?_, ?_, ?_⟩
              · rw [HLS.out]
                refine Own2.snoc (w1 := w6) (w := w6) (vals := vs) (ov := .slice oo vs.length oc) V2.out ?_ hrow ⟨_, _, _, rfl⟩ ?_ O1.out hgr2 ?_
                · intro q hq hq'
                  obtain ⟨k1, k2, k3⟩ := V3.out q hq hq'
                  exact ⟨k1.keep A2.out, k2, fun k hk => ⟨(k3 k hk).1, Nat.lt_of_lt_of_le (k3 k hk).2.1 hs6, (k3 k hk).2.2⟩⟩
                · intro k hk
                  have : gl = k := by simpa [Value.ownBlock] using hk
                  subst this
                  refine ⟨by omega, hgl, fun e => ?_⟩
                  have := (hownb gl e.symm).2
                  omega
                · rcases O3.out with h | h
                  · exact .inl h
                  · right
                    rw [h]
                    simp
              · refine (P2.out.keep0 A2.out).keep hgr2 ?_
                intro e
                have := (hownb w2.heap.size e.symm).1
                omega
              · exact gr_trans (gr_none P3.out A2.out) hgr2 (fun _ _ e => e) (fun b hb e => by have := (hownb b e.symm).1; omega)
              · have := hgr2.size
                omega
            case measure => simp [intOf]; omega
        · obtain rfl : j = ps.length := by omega
          go_wp2
          refine bodyPost_ret (v := .tuple #[.slice oo vs.length oc, .agg #[.int .i64 0, .int .i64 0]]) (by simp [results, Tryd.results5, go_sem, r0, r1]) rfl ?_
          refine ⟨_, rfl, ?_, gr_set (gr_set (gr_none GW.out (gr_none G2.out P3.out)) _ _ (by simp)) _ _ (by simp)⟩
          rw [HT0.out, HCS.out]
          exact (P1.out.keepB (gr_row (gr_row (gr_refl wr _) (w.heap.size + 1) 0 (.int .i64 0) rfl) (w.heap.size + 1) 1 (.int .i64 0) rfl) (by have := HWS.out; have := G2.out.size; omega)).rows
end Go.Proofs.YtfhamfgcjdhmdaaDoor
