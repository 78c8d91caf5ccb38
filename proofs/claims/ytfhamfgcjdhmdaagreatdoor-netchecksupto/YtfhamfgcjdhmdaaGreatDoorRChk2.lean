/- voltaicref: CheckNet. -/
import Derived.Test.YtfhamfgcjdhmdaaGreatDoorRChk
namespace Go.Proofs.YtfhamfgcjdhmdaaGreatDoor
open Go.RowKit
set_option linter.unusedVariables false

def RChkR (W : World) (dio : Bool) (nodes : Int) (ps : List Prt) (C : Int × Int) (iv : Value) (wr : World) : Prop := ∃ i : Nat, i ≤ ps.length ∧ iv = .int .i64 i ∧ firstBadD dio nodes (ps.drop i) i = C ∧ W.grownBy wr none

set_option maxHeartbeats 1000000 in
set_option maxRecDepth 10000 in
theorem refCheck_many (nodes : Int) (o : Option Addr) (l cap : Nat) (dio : Bool) (w : World) (h : nodes < 1 ∨ 8 < nodes ∨ 16 < l) :
    Calls Tryz.prog 16 #[.agg #[.int .i64 nodes, .slice o l cap], .bool dio] w fun e w' => e = .returned (.agg #[.int .i64 2, .int .i64 0]) ∧ w.grownBy w' none := by
  by_cases h1 : nodes < 1
  · clear h
    go_enter Tryz.func16, Tryz.ntmps16
    go_wp2_with fail
    refine (F_at 2 0 _).mono ?_
    rintro e w1 ⟨rfl, f1⟩
    have hrr : w1.cell? ⟨w.heap.size + 1, 0, none⟩ = some (.int .i64 0) ∧ w1.cell? ⟨w.heap.size + 1, 1, none⟩ = some (.int .i64 0) ∧ (∀ i, w1.frozen? ⟨w.heap.size + 1, i, none⟩ = false) := by
      have := res_two f1
      simpa using this
    obtain ⟨r0, r1, rf⟩ := hrr
    have rf0 := rf 0
    have rf1 := rf 1
    have F1 := hide f1
    clear rf f1
    go_wp2
    exact bodyPost_ret (v := .agg #[.int .i64 2, .int .i64 0]) (by simp [results, Tryz.results16, go_sem, r0, r1]) rfl ⟨rfl, gr_set (gr_set (gr_none (gr_alloc (gr_alloc (gr_refl _ _) _) _) F1.out) _ _ (by simp)) _ _ (by simp)⟩
  · by_cases h2 : 8 < nodes
    · clear h
      go_enter Tryz.func16, Tryz.ntmps16
      go_wp2_with fail
      refine (F_at 2 0 _).mono ?_
      rintro e w1 ⟨rfl, f1⟩
      have hrr : w1.cell? ⟨w.heap.size + 1, 0, none⟩ = some (.int .i64 0) ∧ w1.cell? ⟨w.heap.size + 1, 1, none⟩ = some (.int .i64 0) ∧ (∀ i, w1.frozen? ⟨w.heap.size + 1, i, none⟩ = false) := by
        have := res_two f1
        simpa using this
      obtain ⟨r0, r1, rf⟩ := hrr
      have rf0 := rf 0
      have rf1 := rf 1
      have F1 := hide f1
      clear rf f1
      go_wp2
      exact bodyPost_ret (v := .agg #[.int .i64 2, .int .i64 0]) (by simp [results, Tryz.results16, go_sem, r0, r1]) rfl ⟨rfl, gr_set (gr_set (gr_none (gr_alloc (gr_alloc (gr_refl _ _) _) _) F1.out) _ _ (by simp)) _ _ (by simp)⟩
    · have h3 : 16 < l := by omega
      have h1' : decide (nodes < 1) = false := by simpa using h1
      have h2' : decide (8 < nodes) = false := by simpa using h2
      clear h
      go_enter Tryz.func16, Tryz.ntmps16
      go_wp2_with fail
      refine (F_at 2 0 _).mono ?_
      rintro e w1 ⟨rfl, f1⟩
      have hrr : w1.cell? ⟨w.heap.size + 1, 0, none⟩ = some (.int .i64 0) ∧ w1.cell? ⟨w.heap.size + 1, 1, none⟩ = some (.int .i64 0) ∧ (∀ i, w1.frozen? ⟨w.heap.size + 1, i, none⟩ = false) := by
        have := res_two f1
        simpa using this
      obtain ⟨r0, r1, rf⟩ := hrr
      have rf0 := rf 0
      have rf1 := rf 1
      have F1 := hide f1
      clear rf f1
      go_wp2
      exact bodyPost_ret (v := .agg #[.int .i64 2, .int .i64 0]) (by simp [results, Tryz.results16, go_sem, r0, r1]) rfl ⟨rfl, gr_set (gr_set (gr_none (gr_alloc (gr_alloc (gr_refl _ _) _) _) F1.out) _ _ (by simp)) _ _ (by simp)⟩

set_option maxHeartbeats 16000000 in
set_option maxRecDepth 10000 in
theorem refCheck_at (nodes : Int) (pv : Value) (ps : List Prt) (dio : Bool) (w : World) (hb : Base w) (hp : PartsAt w pv ps) (hsz : ∀ i (h : i < ps.length), ps[i].v.size ≤ 100000000) :
    Calls Tryz.prog 16 #[.agg #[.int .i64 nodes, pv], .bool dio] w fun e w' => CheckDE dio w nodes ps e w' := by
  obtain ⟨ao, cap, rfl, h1, h2, h3⟩ := hp
  unfold maxLen at h2
  by_cases hm : nodes < 1 ∨ 8 < nodes ∨ 16 < ps.length
  · refine (refCheck_many nodes ao ps.length cap dio w hm).mono ?_
    rintro e w' ⟨rfl, hw⟩
    refine ⟨?_, hw⟩
    unfold checkD
    rw [if_pos hm]
  · have hn1 : decide (nodes < 1) = false := by simp; omega
    have hn2 : decide (8 < nodes) = false := by simp; omega
    have hn3 : decide ((16 : Int) < (ps.length : Int)) = false := by simp; omega
    have hl16 : ps.length ≤ 16 := by omega
    have HP := hide h3
    have HSZ := hide hsz
    obtain ⟨_, ⟨ml, hml⟩, _⟩ := hb
    have HML := hide hml
    obtain ⟨C, hC⟩ : ∃ C, firstBadD dio nodes ps 0 = C := ⟨_, rfl⟩
    have HCK : Hid (checkD dio nodes ps = C) := by
      show _ = _
      unfold checkD
      rw [if_neg hm, hC]
    have HC0 := hide hC
    clear h3 hml hm hC hsz
    go_enter Tryz.func16, Tryz.ntmps16
    go_wp2
    obtain ⟨W, hW⟩ : ∃ W, W = (w.alloc (Obj.cells #[.int .i64 nodes, .slice ao ps.length cap] 38)).alloc (Obj.cells #[.int .i64 0, .int .i64 0] 26) := ⟨_, rfl⟩
    have gW : Hid (w.grownBy W none) := by rw [hW]; exact gr_alloc (gr_alloc (gr_refl _ _) _) _
    have rW : Hid (∀ wr : World, W.grownBy wr none → wr.cell? ⟨w.heap.size + 1, 0, none⟩ = some (.int .i64 0) ∧ wr.cell? ⟨w.heap.size + 1, 1, none⟩ = some (.int .i64 0) ∧ (∀ i, wr.frozen? ⟨w.heap.size + 1, i, none⟩ = false) ∧ wr.cell? ⟨w.heap.size, 0, none⟩ = some (.int .i64 nodes)) := by
      intro wr hg
      rw [hW] at hg
      have := res_two hg
      exact ⟨by simpa using this.1, by simpa using this.2.1, by simpa using this.2.2, hg.cell (by go_simp) (by simp)⟩
    simp only [← hW]
    clear hW hn1 hn2 hn3
    go_loopw [27] (fun iv wr => Hid (RChkR W dio nodes ps C iv wr)) (fun iv _ => ps.length - (intOf iv).toNat)
    case atStart => exact ⟨0, by omega, rfl, HC0.out, gr_refl _ _⟩
    case round =>
      obtain ⟨i, hi, rfl, hF, hgr⟩ := hrel.out
      have HF := hide hF
      have HGR := hide hgr
      clear hF hgr hrel
      by_cases hlt : i < ps.length
      · obtain ⟨b, off, rfl, hb, c0, c1, c2, c3, c4, c5, c6⟩ := HP.out i hlt
        have hgg := (gr_none gW.out HGR.out)
        have q0 := hgg.cell c0 (by simp)
        have q1 := hgg.cell c1 (by simp)
        have q2 := hgg.cell c2 (by simp)
        have q3 := hgg.cell c3 (by simp)
        have q4 := hgg.cell c4 (by simp)
        have q5 := hgg.cell c5 (by simp)
        have hvz := HSZ.out i hlt
        have hd : ps.drop i = ps[i] :: ps.drop (i + 1) := List.drop_eq_getElem_cons hlt
        have HD := hide hd
        have HML2 := hide (hgg.cell HML.out (by simp))
        generalize ps[i] = p at q0 q1 q2 q3 q4 q5 hvz HD
        obtain ⟨k, pa, pb, pc, pd, v⟩ := p
        simp only at q0 q1 q2 q3 q4 q5 hvz
        obtain ⟨W2, hW2⟩ : ∃ W2, W2 = wr.alloc (Obj.cells #[.int .i64 k, .int .i64 pa, .int .i64 pb, .int .i64 pc, .int .i64 pd, .string v] 62) := ⟨_, rfl⟩
        have GW2 : Hid (W.grownBy W2 none) := by rw [hW2]; exact gr_alloc HGR.out _
        have hls : wr.heap.size < W2.heap.size := by rw [hW2]; simp
        have PW : Hid (∀ wx : World, W2.grownBy wx none → wx.cell? ⟨wr.heap.size, 0, none⟩ = some (.int .i64 k) ∧ wx.cell? ⟨wr.heap.size, 1, none⟩ = some (.int .i64 pa) ∧ wx.cell? ⟨wr.heap.size, 2, none⟩ = some (.int .i64 pb) ∧ wx.cell? ⟨wr.heap.size, 3, none⟩ = some (.int .i64 pc) ∧ wx.cell? ⟨wr.heap.size, 4, none⟩ = some (.int .i64 pd) ∧ wx.cell? ⟨wr.heap.size, 5, none⟩ = some (.string v)) := by
          intro wx hg
          rw [hW2] at hg
          exact ⟨hg.cell (by go_simp) (by simp), hg.cell (by go_simp) (by simp), hg.cell (by go_simp) (by simp), hg.cell (by go_simp) (by simp), hg.cell (by go_simp) (by simp), hg.cell (by go_simp) (by simp)⟩
        have HML3 : Hid (W2.cell? ⟨5, 0, none⟩ = some (.int .i64 ml)) := by rw [hW2]; exact (gr_alloc (gr_refl wr none) _).cell HML2.out (by simp)
        have HW2 := hide hW2
        clear c0 c1 c2 c3 c4 c5 hd hgg hW2
        by_cases k1 : k < 1
        · have kk1 : decide (k < 1) = true := by simpa using k1
          have e6 : (k == 6) = false := by simp; omega
          have e7 : (k == 7) = false := by simp; omega
          obtain ⟨pp0, pp1, pp2, pp3, pp4, pp5⟩ := PW.out W2 (gr_refl _ _)
          have n0 := (rW.out W2 GW2.out).2.2.2
          go_wp2_with fail
          simp only [← HW2.out]
          refine (F_at 3 i _).mono ?_
          rintro e w4 ⟨rfl, f4⟩
          have GW4 := hide (gr_none GW2.out f4)
          obtain ⟨r0, r1, rf, _⟩ := rW.out w4 GW4.out
          have rf0 := rf 0
          have rf1 := rf 1
          clear rf f4
          go_wp2
          refine bodyPost_ret (v := .agg #[.int .i64 3, .int .i64 (i : Nat)]) (by simp [results, Tryz.results16, go_sem, r0, r1]) rfl ?_
          have hf := HF.out
          have hwr : wrongD dio ⟨k, pa, pb, pc, pd, v⟩ nodes = 3 := wd_kind (.inl k1)
          rw [HD.out, firstBadD, hwr, if_neg (by decide)] at hf
          exact ⟨by rw [HCK.out, ← hf], gr_set (gr_set (gr_none gW.out GW4.out) _ _ (by simp)) _ _ (by simp)⟩
        have kk1 : decide (k < 1) = false := by simpa using k1
        by_cases k8 : 8 < k
        · have kk8 : decide (8 < k) = true := by simpa using k8
          have e6 : (k == 6) = false := by simp; omega
          have e7 : (k == 7) = false := by simp; omega
          obtain ⟨pp0, pp1, pp2, pp3, pp4, pp5⟩ := PW.out W2 (gr_refl _ _)
          have n0 := (rW.out W2 GW2.out).2.2.2
          go_wp2_with fail
          simp only [← HW2.out]
          refine (F_at 3 i _).mono ?_
          rintro e w4 ⟨rfl, f4⟩
          have GW4 := hide (gr_none GW2.out f4)
          obtain ⟨r0, r1, rf, _⟩ := rW.out w4 GW4.out
          have rf0 := rf 0
          have rf1 := rf 1
          clear rf f4
          go_wp2
          refine bodyPost_ret (v := .agg #[.int .i64 3, .int .i64 (i : Nat)]) (by simp [results, Tryz.results16, go_sem, r0, r1]) rfl ?_
          have hf := HF.out
          have hwr : wrongD dio ⟨k, pa, pb, pc, pd, v⟩ nodes = 3 := wd_kind (.inr (.inl k8))
          rw [HD.out, firstBadD, hwr, if_neg (by decide)] at hf
          exact ⟨by rw [HCK.out, ← hf], gr_set (gr_set (gr_none gW.out GW4.out) _ _ (by simp)) _ _ (by simp)⟩
        have kk8 : decide (8 < k) = false := by simpa using k8
        by_cases k9 : k = 8 ∧ dio = false
        · obtain ⟨rfl, rfl⟩ := k9
          obtain ⟨pp0, pp1, pp2, pp3, pp4, pp5⟩ := PW.out W2 (gr_refl _ _)
          have n0 := (rW.out W2 GW2.out).2.2.2
          go_wp2_with fail
          simp only [← HW2.out]
          refine (F_at 3 i _).mono ?_
          rintro e w4 ⟨rfl, f4⟩
          have GW4 := hide (gr_none GW2.out f4)
          obtain ⟨r0, r1, rf, _⟩ := rW.out w4 GW4.out
          have rf0 := rf 0
          have rf1 := rf 1
          clear rf f4
          go_wp2
          refine bodyPost_ret (v := .agg #[.int .i64 3, .int .i64 (i : Nat)]) (by simp [results, Tryz.results16, go_sem, r0, r1]) rfl ?_
          have hf := HF.out
          have hwr : wrongD false ⟨8, pa, pb, pc, pd, v⟩ nodes = 3 := wd_kind (.inr (.inr ⟨rfl, rfl⟩))
          rw [HD.out, firstBadD, hwr, if_neg (by decide)] at hf
          exact ⟨by rw [HCK.out, ← hf], gr_set (gr_set (gr_none gW.out GW4.out) _ _ (by simp)) _ _ (by simp)⟩
        have hkk : (k = 1 ∨ k = 2 ∨ k = 3) ∨ (k = 4 ∨ k = 5) ∨ k = 6 ∨ k = 7 ∨ (k = 8 ∧ dio = true) := kinds_of k1 k8 k9
        clear k9
        rcases hkk with hk | hk | rfl | rfl | ⟨rfl, rfl⟩
        · skip
          cases hA : isN pa nodes with
          | false =>
            have e6 : (k == 6) = false := by simp; omega
            have e7 : (k == 7) = false := by simp; omega
            have e8 : (k == 8) = false := by simp; omega
            have l4 : decide (k < 4) = true := by simp; omega
            obtain ⟨pp0, pp1, pp2, pp3, pp4, pp5⟩ := PW.out W2 (gr_refl _ _)
            have n0 := (rW.out W2 GW2.out).2.2.2
            go_wp2_with fail
            simp only [← HW2.out]
            refine (isR_at pa nodes w.heap.size _ n0).mono ?_
            rintro e wx ⟨rfl, rfl⟩
            rw [hA]
            go_wp2_with fail
            refine (F_at 4 i _).mono ?_
            rintro e w4 ⟨rfl, f4⟩
            have GW4 := hide (gr_none GW2.out f4)
            obtain ⟨r0, r1, rf, _⟩ := rW.out w4 GW4.out
            have rf0 := rf 0
            have rf1 := rf 1
            clear rf f4
            go_wp2
            refine bodyPost_ret (v := .agg #[.int .i64 4, .int .i64 (i : Nat)]) (by simp [results, Tryz.results16, go_sem, r0, r1]) rfl ?_
            have hf := HF.out
            have hwr : wrongD dio ⟨k, pa, pb, pc, pd, v⟩ nodes = 4 := wd_node (.inl hk) (by simp [hA])
            rw [HD.out, firstBadD, hwr, if_neg (by decide)] at hf
            exact ⟨by rw [HCK.out, ← hf], gr_set (gr_set (gr_none gW.out GW4.out) _ _ (by simp)) _ _ (by simp)⟩
          | true =>
            cases hB : isN pb nodes with
            | false =>
              have e6 : (k == 6) = false := by simp; omega
              have e7 : (k == 7) = false := by simp; omega
              have e8 : (k == 8) = false := by simp; omega
              have l4 : decide (k < 4) = true := by simp; omega
              obtain ⟨pp0, pp1, pp2, pp3, pp4, pp5⟩ := PW.out W2 (gr_refl _ _)
              have n0 := (rW.out W2 GW2.out).2.2.2
              go_wp2_with fail
              simp only [← HW2.out]
              refine (isR_at pa nodes w.heap.size _ n0).mono ?_
              rintro e wx ⟨rfl, rfl⟩
              rw [hA]
              go_wp2_with fail
              refine (isR_at pb nodes w.heap.size _ n0).mono ?_
              rintro e wx ⟨rfl, rfl⟩
              rw [hB]
              go_wp2_with fail
              refine (F_at 4 i _).mono ?_
              rintro e w4 ⟨rfl, f4⟩
              have GW4 := hide (gr_none GW2.out f4)
              obtain ⟨r0, r1, rf, _⟩ := rW.out w4 GW4.out
              have rf0 := rf 0
              have rf1 := rf 1
              clear rf f4
              go_wp2
              refine bodyPost_ret (v := .agg #[.int .i64 4, .int .i64 (i : Nat)]) (by simp [results, Tryz.results16, go_sem, r0, r1]) rfl ?_
              have hf := HF.out
              have hwr : wrongD dio ⟨k, pa, pb, pc, pd, v⟩ nodes = 4 := wd_node (.inl hk) (by simp [hB])
              rw [HD.out, firstBadD, hwr, if_neg (by decide)] at hf
              exact ⟨by rw [HCK.out, ← hf], gr_set (gr_set (gr_none gW.out GW4.out) _ _ (by simp)) _ _ (by simp)⟩
            | true =>
              by_cases hS : signV v ≤ 0
              · have e6 : (k == 6) = false := by simp; omega
                have e7 : (k == 7) = false := by simp; omega
                have e8 : (k == 8) = false := by simp; omega
                have l4 : decide (k < 4) = true := by simp; omega
                obtain ⟨pp0, pp1, pp2, pp3, pp4, pp5⟩ := PW.out W2 (gr_refl _ _)
                have n0 := (rW.out W2 GW2.out).2.2.2
                go_wp2_with fail
                simp only [← HW2.out]
                refine (isR_at pa nodes w.heap.size _ n0).mono ?_
                rintro e wx ⟨rfl, rfl⟩
                rw [hA]
                go_wp2_with fail
                refine (isR_at pb nodes w.heap.size _ n0).mono ?_
                rintro e wx ⟨rfl, rfl⟩
                rw [hB]
                go_wp2_with fail
                refine (refOf_at v ml _ hvz HML3.out).mono ?_
                intro e w3 hE
                obtain ⟨nb, rfl, g3, _, i3, _⟩ := hE
                have I3 := hide i3
                have G3 := hide g3
                have GW3 := hide (gr_none GW2.out g3)
                obtain ⟨pp0, pp1, pp2, pp3, pp4, pp5⟩ := PW.out w3 g3
                have n0 := (rW.out w3 GW3.out).2.2.2
                clear g3 i3
                go_wp2_with fail
                refine (ratSign_at nb _ _ _ I3.out).mono ?_
                rintro e wx ⟨rfl, rfl⟩
                obtain ⟨sz, hszq⟩ : ∃ sz, sz = sgn (sg (ofQ v.data.toList).1 (ofQ v.data.toList).2.1) := ⟨_, rfl⟩
                rw [← hszq]
                have hdec : decide (sz ≤ 0) = true := by rw [hszq]; exact (sgn_sign v).trans (by simpa using hS)
                clear hszq
                go_wp2_with fail
                refine (F_at 5 i _).mono ?_
                rintro e w4 ⟨rfl, f4⟩
                have GW4 := hide (gr_none GW3.out f4)
                obtain ⟨r0, r1, rf, _⟩ := rW.out w4 GW4.out
                have rf0 := rf 0
                have rf1 := rf 1
                clear rf f4
                go_wp2
                refine bodyPost_ret (v := .agg #[.int .i64 5, .int .i64 (i : Nat)]) (by simp [results, Tryz.results16, go_sem, r0, r1]) rfl ?_
                have hf := HF.out
                have hwr : wrongD dio ⟨k, pa, pb, pc, pd, v⟩ nodes = 5 := wd_above (.inl hk) hk hA hB hS
                rw [HD.out, firstBadD, hwr, if_neg (by decide)] at hf
                exact ⟨by rw [HCK.out, ← hf], gr_set (gr_set (gr_none gW.out GW4.out) _ _ (by simp)) _ _ (by simp)⟩
              · by_cases hc : pc = 0
                · by_cases hd : pd = 0
                  · subst hc hd
                    have e6 : (k == 6) = false := by simp; omega
                    have e7 : (k == 7) = false := by simp; omega
                    have e8 : (k == 8) = false := by simp; omega
                    have l4 : decide (k < 4) = true := by simp; omega
                    obtain ⟨pp0, pp1, pp2, pp3, pp4, pp5⟩ := PW.out W2 (gr_refl _ _)
                    have n0 := (rW.out W2 GW2.out).2.2.2
                    go_wp2_with fail
                    simp only [← HW2.out]
                    refine (isR_at pa nodes w.heap.size _ n0).mono ?_
                    rintro e wx ⟨rfl, rfl⟩
                    rw [hA]
                    go_wp2_with fail
                    refine (isR_at pb nodes w.heap.size _ n0).mono ?_
                    rintro e wx ⟨rfl, rfl⟩
                    rw [hB]
                    go_wp2_with fail
                    refine (refOf_at v ml _ hvz HML3.out).mono ?_
                    intro e w3 hE
                    obtain ⟨nb, rfl, g3, _, i3, _⟩ := hE
                    have I3 := hide i3
                    have G3 := hide g3
                    have GW3 := hide (gr_none GW2.out g3)
                    obtain ⟨pp0, pp1, pp2, pp3, pp4, pp5⟩ := PW.out w3 g3
                    have n0 := (rW.out w3 GW3.out).2.2.2
                    clear g3 i3
                    go_wp2_with fail
                    refine (ratSign_at nb _ _ _ I3.out).mono ?_
                    rintro e wx ⟨rfl, rfl⟩
                    obtain ⟨sz, hszq⟩ : ∃ sz, sz = sgn (sg (ofQ v.data.toList).1 (ofQ v.data.toList).2.1) := ⟨_, rfl⟩
                    rw [← hszq]
                    have hdec : decide (sz ≤ 0) = false := by rw [hszq]; exact (sgn_sign v).trans (by simpa using hS)
                    clear hszq
                    go_wp2
                    go_roundw
                    case rel =>
                      refine ⟨i + 1, by omega, by go_num, ?_, GW3.out⟩
                      have hf := HF.out
                      have hwr : wrongD dio ⟨k, pa, pb, 0, 0, v⟩ nodes = 0 := wd_fine (.inl hk) hk hA hB (by omega) rfl rfl
                      rw [HD.out, firstBadD, if_pos hwr] at hf
                      exact hf
                    case measure => simp [intOf]; omega
                  · have hdn : (pd == 0) = false := by simpa using hd
                    subst hc
                    have e6 : (k == 6) = false := by simp; omega
                    have e7 : (k == 7) = false := by simp; omega
                    have e8 : (k == 8) = false := by simp; omega
                    have l4 : decide (k < 4) = true := by simp; omega
                    obtain ⟨pp0, pp1, pp2, pp3, pp4, pp5⟩ := PW.out W2 (gr_refl _ _)
                    have n0 := (rW.out W2 GW2.out).2.2.2
                    go_wp2_with fail
                    simp only [← HW2.out]
                    refine (isR_at pa nodes w.heap.size _ n0).mono ?_
                    rintro e wx ⟨rfl, rfl⟩
                    rw [hA]
                    go_wp2_with fail
                    refine (isR_at pb nodes w.heap.size _ n0).mono ?_
                    rintro e wx ⟨rfl, rfl⟩
                    rw [hB]
                    go_wp2_with fail
                    refine (refOf_at v ml _ hvz HML3.out).mono ?_
                    intro e w3 hE
                    obtain ⟨nb, rfl, g3, _, i3, _⟩ := hE
                    have I3 := hide i3
                    have G3 := hide g3
                    have GW3 := hide (gr_none GW2.out g3)
                    obtain ⟨pp0, pp1, pp2, pp3, pp4, pp5⟩ := PW.out w3 g3
                    have n0 := (rW.out w3 GW3.out).2.2.2
                    clear g3 i3
                    go_wp2_with fail
                    refine (ratSign_at nb _ _ _ I3.out).mono ?_
                    rintro e wx ⟨rfl, rfl⟩
                    obtain ⟨sz, hszq⟩ : ∃ sz, sz = sgn (sg (ofQ v.data.toList).1 (ofQ v.data.toList).2.1) := ⟨_, rfl⟩
                    rw [← hszq]
                    have hdec : decide (sz ≤ 0) = false := by rw [hszq]; exact (sgn_sign v).trans (by simpa using hS)
                    clear hszq
                    go_wp2_with fail
                    refine (F_at 6 i _).mono ?_
                    rintro e w4 ⟨rfl, f4⟩
                    have GW4 := hide (gr_none GW3.out f4)
                    obtain ⟨r0, r1, rf, _⟩ := rW.out w4 GW4.out
                    have rf0 := rf 0
                    have rf1 := rf 1
                    clear rf f4
                    go_wp2
                    refine bodyPost_ret (v := .agg #[.int .i64 6, .int .i64 (i : Nat)]) (by simp [results, Tryz.results16, go_sem, r0, r1]) rfl ?_
                    have hf := HF.out
                    have hwr : wrongD dio ⟨k, pa, pb, 0, pd, v⟩ nodes = 6 := wd_form (.inl hk) hk hA hB (by omega) (.inr hd)
                    rw [HD.out, firstBadD, hwr, if_neg (by decide)] at hf
                    exact ⟨by rw [HCK.out, ← hf], gr_set (gr_set (gr_none gW.out GW4.out) _ _ (by simp)) _ _ (by simp)⟩
                · have hcn : (pc == 0) = false := by simpa using hc
                  have e6 : (k == 6) = false := by simp; omega
                  have e7 : (k == 7) = false := by simp; omega
                  have e8 : (k == 8) = false := by simp; omega
                  have l4 : decide (k < 4) = true := by simp; omega
                  obtain ⟨pp0, pp1, pp2, pp3, pp4, pp5⟩ := PW.out W2 (gr_refl _ _)
                  have n0 := (rW.out W2 GW2.out).2.2.2
                  go_wp2_with fail
                  simp only [← HW2.out]
                  refine (isR_at pa nodes w.heap.size _ n0).mono ?_
                  rintro e wx ⟨rfl, rfl⟩
                  rw [hA]
                  go_wp2_with fail
                  refine (isR_at pb nodes w.heap.size _ n0).mono ?_
                  rintro e wx ⟨rfl, rfl⟩
                  rw [hB]
                  go_wp2_with fail
                  refine (refOf_at v ml _ hvz HML3.out).mono ?_
                  intro e w3 hE
                  obtain ⟨nb, rfl, g3, _, i3, _⟩ := hE
                  have I3 := hide i3
                  have G3 := hide g3
                  have GW3 := hide (gr_none GW2.out g3)
                  obtain ⟨pp0, pp1, pp2, pp3, pp4, pp5⟩ := PW.out w3 g3
                  have n0 := (rW.out w3 GW3.out).2.2.2
                  clear g3 i3
                  go_wp2_with fail
                  refine (ratSign_at nb _ _ _ I3.out).mono ?_
                  rintro e wx ⟨rfl, rfl⟩
                  obtain ⟨sz, hszq⟩ : ∃ sz, sz = sgn (sg (ofQ v.data.toList).1 (ofQ v.data.toList).2.1) := ⟨_, rfl⟩
                  rw [← hszq]
                  have hdec : decide (sz ≤ 0) = false := by rw [hszq]; exact (sgn_sign v).trans (by simpa using hS)
                  clear hszq
                  go_wp2_with fail
                  refine (F_at 6 i _).mono ?_
                  rintro e w4 ⟨rfl, f4⟩
                  have GW4 := hide (gr_none GW3.out f4)
                  obtain ⟨r0, r1, rf, _⟩ := rW.out w4 GW4.out
                  have rf0 := rf 0
                  have rf1 := rf 1
                  clear rf f4
                  go_wp2
                  refine bodyPost_ret (v := .agg #[.int .i64 6, .int .i64 (i : Nat)]) (by simp [results, Tryz.results16, go_sem, r0, r1]) rfl ?_
                  have hf := HF.out
                  have hwr : wrongD dio ⟨k, pa, pb, pc, pd, v⟩ nodes = 6 := wd_form (.inl hk) hk hA hB (by omega) (.inl hc)
                  rw [HD.out, firstBadD, hwr, if_neg (by decide)] at hf
                  exact ⟨by rw [HCK.out, ← hf], gr_set (gr_set (gr_none gW.out GW4.out) _ _ (by simp)) _ _ (by simp)⟩
        · skip
          cases hA : isN pa nodes with
          | false =>
            have e6 : (k == 6) = false := by simp; omega
            have e7 : (k == 7) = false := by simp; omega
            have e8 : (k == 8) = false := by simp; omega
            have l4 : decide (k < 4) = false := by simp; omega
            obtain ⟨pp0, pp1, pp2, pp3, pp4, pp5⟩ := PW.out W2 (gr_refl _ _)
            have n0 := (rW.out W2 GW2.out).2.2.2
            go_wp2_with fail
            simp only [← HW2.out]
            refine (isR_at pa nodes w.heap.size _ n0).mono ?_
            rintro e wx ⟨rfl, rfl⟩
            rw [hA]
            go_wp2_with fail
            refine (F_at 4 i _).mono ?_
            rintro e w4 ⟨rfl, f4⟩
            have GW4 := hide (gr_none GW2.out f4)
            obtain ⟨r0, r1, rf, _⟩ := rW.out w4 GW4.out
            have rf0 := rf 0
            have rf1 := rf 1
            clear rf f4
            go_wp2
            refine bodyPost_ret (v := .agg #[.int .i64 4, .int .i64 (i : Nat)]) (by simp [results, Tryz.results16, go_sem, r0, r1]) rfl ?_
            have hf := HF.out
            have hwr : wrongD dio ⟨k, pa, pb, pc, pd, v⟩ nodes = 4 := wd_node (.inr (.inl hk)) (by simp [hA])
            rw [HD.out, firstBadD, hwr, if_neg (by decide)] at hf
            exact ⟨by rw [HCK.out, ← hf], gr_set (gr_set (gr_none gW.out GW4.out) _ _ (by simp)) _ _ (by simp)⟩
          | true =>
            cases hB : isN pb nodes with
            | false =>
              have e6 : (k == 6) = false := by simp; omega
              have e7 : (k == 7) = false := by simp; omega
              have e8 : (k == 8) = false := by simp; omega
              have l4 : decide (k < 4) = false := by simp; omega
              obtain ⟨pp0, pp1, pp2, pp3, pp4, pp5⟩ := PW.out W2 (gr_refl _ _)
              have n0 := (rW.out W2 GW2.out).2.2.2
              go_wp2_with fail
              simp only [← HW2.out]
              refine (isR_at pa nodes w.heap.size _ n0).mono ?_
              rintro e wx ⟨rfl, rfl⟩
              rw [hA]
              go_wp2_with fail
              refine (isR_at pb nodes w.heap.size _ n0).mono ?_
              rintro e wx ⟨rfl, rfl⟩
              rw [hB]
              go_wp2_with fail
              refine (F_at 4 i _).mono ?_
              rintro e w4 ⟨rfl, f4⟩
              have GW4 := hide (gr_none GW2.out f4)
              obtain ⟨r0, r1, rf, _⟩ := rW.out w4 GW4.out
              have rf0 := rf 0
              have rf1 := rf 1
              clear rf f4
              go_wp2
              refine bodyPost_ret (v := .agg #[.int .i64 4, .int .i64 (i : Nat)]) (by simp [results, Tryz.results16, go_sem, r0, r1]) rfl ?_
              have hf := HF.out
              have hwr : wrongD dio ⟨k, pa, pb, pc, pd, v⟩ nodes = 4 := wd_node (.inr (.inl hk)) (by simp [hB])
              rw [HD.out, firstBadD, hwr, if_neg (by decide)] at hf
              exact ⟨by rw [HCK.out, ← hf], gr_set (gr_set (gr_none gW.out GW4.out) _ _ (by simp)) _ _ (by simp)⟩
            | true =>
              by_cases hc : pc = 0
              · by_cases hd : pd = 0
                · subst hc hd
                  have e6 : (k == 6) = false := by simp; omega
                  have e7 : (k == 7) = false := by simp; omega
                  have e8 : (k == 8) = false := by simp; omega
                  have l4 : decide (k < 4) = false := by simp; omega
                  obtain ⟨pp0, pp1, pp2, pp3, pp4, pp5⟩ := PW.out W2 (gr_refl _ _)
                  have n0 := (rW.out W2 GW2.out).2.2.2
                  go_wp2_with fail
                  simp only [← HW2.out]
                  refine (isR_at pa nodes w.heap.size _ n0).mono ?_
                  rintro e wx ⟨rfl, rfl⟩
                  rw [hA]
                  go_wp2_with fail
                  refine (isR_at pb nodes w.heap.size _ n0).mono ?_
                  rintro e wx ⟨rfl, rfl⟩
                  rw [hB]
                  go_wp2
                  go_roundw
                  case rel =>
                    refine ⟨i + 1, by omega, by go_num, ?_, GW2.out⟩
                    have hf := HF.out
                    have hwr : wrongD dio ⟨k, pa, pb, 0, 0, v⟩ nodes = 0 := wd_plain (.inr (.inl hk)) hk hA hB rfl rfl
                    rw [HD.out, firstBadD, if_pos hwr] at hf
                    exact hf
                  case measure => simp [intOf]; omega
                · have hdn : (pd == 0) = false := by simpa using hd
                  subst hc
                  have e6 : (k == 6) = false := by simp; omega
                  have e7 : (k == 7) = false := by simp; omega
                  have e8 : (k == 8) = false := by simp; omega
                  have l4 : decide (k < 4) = false := by simp; omega
                  obtain ⟨pp0, pp1, pp2, pp3, pp4, pp5⟩ := PW.out W2 (gr_refl _ _)
                  have n0 := (rW.out W2 GW2.out).2.2.2
                  go_wp2_with fail
                  simp only [← HW2.out]
                  refine (isR_at pa nodes w.heap.size _ n0).mono ?_
                  rintro e wx ⟨rfl, rfl⟩
                  rw [hA]
                  go_wp2_with fail
                  refine (isR_at pb nodes w.heap.size _ n0).mono ?_
                  rintro e wx ⟨rfl, rfl⟩
                  rw [hB]
                  go_wp2_with fail
                  refine (F_at 6 i _).mono ?_
                  rintro e w4 ⟨rfl, f4⟩
                  have GW4 := hide (gr_none GW2.out f4)
                  obtain ⟨r0, r1, rf, _⟩ := rW.out w4 GW4.out
                  have rf0 := rf 0
                  have rf1 := rf 1
                  clear rf f4
                  go_wp2
                  refine bodyPost_ret (v := .agg #[.int .i64 6, .int .i64 (i : Nat)]) (by simp [results, Tryz.results16, go_sem, r0, r1]) rfl ?_
                  have hf := HF.out
                  have hwr : wrongD dio ⟨k, pa, pb, 0, pd, v⟩ nodes = 6 := wd_pform (.inr (.inl hk)) hk hA hB (.inr hd)
                  rw [HD.out, firstBadD, hwr, if_neg (by decide)] at hf
                  exact ⟨by rw [HCK.out, ← hf], gr_set (gr_set (gr_none gW.out GW4.out) _ _ (by simp)) _ _ (by simp)⟩
              · have hcn : (pc == 0) = false := by simpa using hc
                have e6 : (k == 6) = false := by simp; omega
                have e7 : (k == 7) = false := by simp; omega
                have e8 : (k == 8) = false := by simp; omega
                have l4 : decide (k < 4) = false := by simp; omega
                obtain ⟨pp0, pp1, pp2, pp3, pp4, pp5⟩ := PW.out W2 (gr_refl _ _)
                have n0 := (rW.out W2 GW2.out).2.2.2
                go_wp2_with fail
                simp only [← HW2.out]
                refine (isR_at pa nodes w.heap.size _ n0).mono ?_
                rintro e wx ⟨rfl, rfl⟩
                rw [hA]
                go_wp2_with fail
                refine (isR_at pb nodes w.heap.size _ n0).mono ?_
                rintro e wx ⟨rfl, rfl⟩
                rw [hB]
                go_wp2_with fail
                refine (F_at 6 i _).mono ?_
                rintro e w4 ⟨rfl, f4⟩
                have GW4 := hide (gr_none GW2.out f4)
                obtain ⟨r0, r1, rf, _⟩ := rW.out w4 GW4.out
                have rf0 := rf 0
                have rf1 := rf 1
                clear rf f4
                go_wp2
                refine bodyPost_ret (v := .agg #[.int .i64 6, .int .i64 (i : Nat)]) (by simp [results, Tryz.results16, go_sem, r0, r1]) rfl ?_
                have hf := HF.out
                have hwr : wrongD dio ⟨k, pa, pb, pc, pd, v⟩ nodes = 6 := wd_pform (.inr (.inl hk)) hk hA hB (.inl hc)
                rw [HD.out, firstBadD, hwr, if_neg (by decide)] at hf
                exact ⟨by rw [HCK.out, ← hf], gr_set (gr_set (gr_none gW.out GW4.out) _ _ (by simp)) _ _ (by simp)⟩
        · skip
          cases hA : isN pa nodes with
          | false =>
            obtain ⟨pp0, pp1, pp2, pp3, pp4, pp5⟩ := PW.out W2 (gr_refl _ _)
            have n0 := (rW.out W2 GW2.out).2.2.2
            go_wp2_with fail
            simp only [← HW2.out]
            refine (isR_at pa nodes w.heap.size _ n0).mono ?_
            rintro e wx ⟨rfl, rfl⟩
            rw [hA]
            go_wp2_with fail
            refine (F_at 4 i _).mono ?_
            rintro e w4 ⟨rfl, f4⟩
            have GW4 := hide (gr_none GW2.out f4)
            obtain ⟨r0, r1, rf, _⟩ := rW.out w4 GW4.out
            have rf0 := rf 0
            have rf1 := rf 1
            clear rf f4
            go_wp2
            refine bodyPost_ret (v := .agg #[.int .i64 4, .int .i64 (i : Nat)]) (by simp [results, Tryz.results16, go_sem, r0, r1]) rfl ?_
            have hf := HF.out
            have hwr : wrongD dio ⟨6, pa, pb, pc, pd, v⟩ nodes = 4 := wd_node (.inr (.inr (.inl rfl))) (by simp [hA])
            rw [HD.out, firstBadD, hwr, if_neg (by decide)] at hf
            exact ⟨by rw [HCK.out, ← hf], gr_set (gr_set (gr_none gW.out GW4.out) _ _ (by simp)) _ _ (by simp)⟩
          | true =>
            cases hB : isN pb nodes with
            | false =>
              obtain ⟨pp0, pp1, pp2, pp3, pp4, pp5⟩ := PW.out W2 (gr_refl _ _)
              have n0 := (rW.out W2 GW2.out).2.2.2
              go_wp2_with fail
              simp only [← HW2.out]
              refine (isR_at pa nodes w.heap.size _ n0).mono ?_
              rintro e wx ⟨rfl, rfl⟩
              rw [hA]
              go_wp2_with fail
              refine (isR_at pb nodes w.heap.size _ n0).mono ?_
              rintro e wx ⟨rfl, rfl⟩
              rw [hB]
              go_wp2_with fail
              refine (F_at 4 i _).mono ?_
              rintro e w4 ⟨rfl, f4⟩
              have GW4 := hide (gr_none GW2.out f4)
              obtain ⟨r0, r1, rf, _⟩ := rW.out w4 GW4.out
              have rf0 := rf 0
              have rf1 := rf 1
              clear rf f4
              go_wp2
              refine bodyPost_ret (v := .agg #[.int .i64 4, .int .i64 (i : Nat)]) (by simp [results, Tryz.results16, go_sem, r0, r1]) rfl ?_
              have hf := HF.out
              have hwr : wrongD dio ⟨6, pa, pb, pc, pd, v⟩ nodes = 4 := wd_node (.inr (.inr (.inl rfl))) (by simp [hB])
              rw [HD.out, firstBadD, hwr, if_neg (by decide)] at hf
              exact ⟨by rw [HCK.out, ← hf], gr_set (gr_set (gr_none gW.out GW4.out) _ _ (by simp)) _ _ (by simp)⟩
            | true =>
              cases hC : isN pc nodes with
              | false =>
                obtain ⟨pp0, pp1, pp2, pp3, pp4, pp5⟩ := PW.out W2 (gr_refl _ _)
                have n0 := (rW.out W2 GW2.out).2.2.2
                go_wp2_with fail
                simp only [← HW2.out]
                refine (isR_at pa nodes w.heap.size _ n0).mono ?_
                rintro e wx ⟨rfl, rfl⟩
                rw [hA]
                go_wp2_with fail
                refine (isR_at pb nodes w.heap.size _ n0).mono ?_
                rintro e wx ⟨rfl, rfl⟩
                rw [hB]
                go_wp2_with fail
                refine (isR_at pc nodes w.heap.size _ n0).mono ?_
                rintro e wx ⟨rfl, rfl⟩
                rw [hC]
                go_wp2_with fail
                refine (F_at 4 i _).mono ?_
                rintro e w4 ⟨rfl, f4⟩
                have GW4 := hide (gr_none GW2.out f4)
                obtain ⟨r0, r1, rf, _⟩ := rW.out w4 GW4.out
                have rf0 := rf 0
                have rf1 := rf 1
                clear rf f4
                go_wp2
                refine bodyPost_ret (v := .agg #[.int .i64 4, .int .i64 (i : Nat)]) (by simp [results, Tryz.results16, go_sem, r0, r1]) rfl ?_
                have hf := HF.out
                have hwr : wrongD dio ⟨6, pa, pb, pc, pd, v⟩ nodes = 4 := wd_leadbad (.inl rfl) (.inl hC)
                rw [HD.out, firstBadD, hwr, if_neg (by decide)] at hf
                exact ⟨by rw [HCK.out, ← hf], gr_set (gr_set (gr_none gW.out GW4.out) _ _ (by simp)) _ _ (by simp)⟩
              | true =>
                cases hD : isN pd nodes with
                | false =>
                  obtain ⟨pp0, pp1, pp2, pp3, pp4, pp5⟩ := PW.out W2 (gr_refl _ _)
                  have n0 := (rW.out W2 GW2.out).2.2.2
                  go_wp2_with fail
                  simp only [← HW2.out]
                  refine (isR_at pa nodes w.heap.size _ n0).mono ?_
                  rintro e wx ⟨rfl, rfl⟩
                  rw [hA]
                  go_wp2_with fail
                  refine (isR_at pb nodes w.heap.size _ n0).mono ?_
                  rintro e wx ⟨rfl, rfl⟩
                  rw [hB]
                  go_wp2_with fail
                  refine (isR_at pc nodes w.heap.size _ n0).mono ?_
                  rintro e wx ⟨rfl, rfl⟩
                  rw [hC]
                  go_wp2_with fail
                  refine (isR_at pd nodes w.heap.size _ n0).mono ?_
                  rintro e wx ⟨rfl, rfl⟩
                  rw [hD]
                  go_wp2_with fail
                  refine (F_at 4 i _).mono ?_
                  rintro e w4 ⟨rfl, f4⟩
                  have GW4 := hide (gr_none GW2.out f4)
                  obtain ⟨r0, r1, rf, _⟩ := rW.out w4 GW4.out
                  have rf0 := rf 0
                  have rf1 := rf 1
                  clear rf f4
                  go_wp2
                  refine bodyPost_ret (v := .agg #[.int .i64 4, .int .i64 (i : Nat)]) (by simp [results, Tryz.results16, go_sem, r0, r1]) rfl ?_
                  have hf := HF.out
                  have hwr : wrongD dio ⟨6, pa, pb, pc, pd, v⟩ nodes = 4 := wd_leadbad (.inl rfl) (.inr hD)
                  rw [HD.out, firstBadD, hwr, if_neg (by decide)] at hf
                  exact ⟨by rw [HCK.out, ← hf], gr_set (gr_set (gr_none gW.out GW4.out) _ _ (by simp)) _ _ (by simp)⟩
                | true =>
                  obtain ⟨pp0, pp1, pp2, pp3, pp4, pp5⟩ := PW.out W2 (gr_refl _ _)
                  have n0 := (rW.out W2 GW2.out).2.2.2
                  go_wp2_with fail
                  simp only [← HW2.out]
                  refine (isR_at pa nodes w.heap.size _ n0).mono ?_
                  rintro e wx ⟨rfl, rfl⟩
                  rw [hA]
                  go_wp2_with fail
                  refine (isR_at pb nodes w.heap.size _ n0).mono ?_
                  rintro e wx ⟨rfl, rfl⟩
                  rw [hB]
                  go_wp2_with fail
                  refine (isR_at pc nodes w.heap.size _ n0).mono ?_
                  rintro e wx ⟨rfl, rfl⟩
                  rw [hC]
                  go_wp2_with fail
                  refine (isR_at pd nodes w.heap.size _ n0).mono ?_
                  rintro e wx ⟨rfl, rfl⟩
                  rw [hD]
                  go_wp2
                  go_roundw
                  case rel =>
                    refine ⟨i + 1, by omega, by go_num, ?_, GW2.out⟩
                    have hf := HF.out
                    have hwr : wrongD dio ⟨6, pa, pb, pc, pd, v⟩ nodes = 0 := wd_leadok (.inl rfl) hA hB hC hD
                    rw [HD.out, firstBadD, if_pos hwr] at hf
                    exact hf
                  case measure => simp [intOf]; omega
        · skip
          cases hA : isN pa nodes with
          | false =>
            obtain ⟨pp0, pp1, pp2, pp3, pp4, pp5⟩ := PW.out W2 (gr_refl _ _)
            have n0 := (rW.out W2 GW2.out).2.2.2
            go_wp2_with fail
            simp only [← HW2.out]
            refine (isR_at pa nodes w.heap.size _ n0).mono ?_
            rintro e wx ⟨rfl, rfl⟩
            rw [hA]
            go_wp2_with fail
            refine (F_at 4 i _).mono ?_
            rintro e w4 ⟨rfl, f4⟩
            have GW4 := hide (gr_none GW2.out f4)
            obtain ⟨r0, r1, rf, _⟩ := rW.out w4 GW4.out
            have rf0 := rf 0
            have rf1 := rf 1
            clear rf f4
            go_wp2
            refine bodyPost_ret (v := .agg #[.int .i64 4, .int .i64 (i : Nat)]) (by simp [results, Tryz.results16, go_sem, r0, r1]) rfl ?_
            have hf := HF.out
            have hwr : wrongD dio ⟨7, pa, pb, pc, pd, v⟩ nodes = 4 := wd_node (.inr (.inr (.inr (.inl rfl)))) (by simp [hA])
            rw [HD.out, firstBadD, hwr, if_neg (by decide)] at hf
            exact ⟨by rw [HCK.out, ← hf], gr_set (gr_set (gr_none gW.out GW4.out) _ _ (by simp)) _ _ (by simp)⟩
          | true =>
            cases hB : isN pb nodes with
            | false =>
              obtain ⟨pp0, pp1, pp2, pp3, pp4, pp5⟩ := PW.out W2 (gr_refl _ _)
              have n0 := (rW.out W2 GW2.out).2.2.2
              go_wp2_with fail
              simp only [← HW2.out]
              refine (isR_at pa nodes w.heap.size _ n0).mono ?_
              rintro e wx ⟨rfl, rfl⟩
              rw [hA]
              go_wp2_with fail
              refine (isR_at pb nodes w.heap.size _ n0).mono ?_
              rintro e wx ⟨rfl, rfl⟩
              rw [hB]
              go_wp2_with fail
              refine (F_at 4 i _).mono ?_
              rintro e w4 ⟨rfl, f4⟩
              have GW4 := hide (gr_none GW2.out f4)
              obtain ⟨r0, r1, rf, _⟩ := rW.out w4 GW4.out
              have rf0 := rf 0
              have rf1 := rf 1
              clear rf f4
              go_wp2
              refine bodyPost_ret (v := .agg #[.int .i64 4, .int .i64 (i : Nat)]) (by simp [results, Tryz.results16, go_sem, r0, r1]) rfl ?_
              have hf := HF.out
              have hwr : wrongD dio ⟨7, pa, pb, pc, pd, v⟩ nodes = 4 := wd_node (.inr (.inr (.inr (.inl rfl)))) (by simp [hB])
              rw [HD.out, firstBadD, hwr, if_neg (by decide)] at hf
              exact ⟨by rw [HCK.out, ← hf], gr_set (gr_set (gr_none gW.out GW4.out) _ _ (by simp)) _ _ (by simp)⟩
            | true =>
              cases hC : isN pc nodes with
              | false =>
                obtain ⟨pp0, pp1, pp2, pp3, pp4, pp5⟩ := PW.out W2 (gr_refl _ _)
                have n0 := (rW.out W2 GW2.out).2.2.2
                go_wp2_with fail
                simp only [← HW2.out]
                refine (isR_at pa nodes w.heap.size _ n0).mono ?_
                rintro e wx ⟨rfl, rfl⟩
                rw [hA]
                go_wp2_with fail
                refine (isR_at pb nodes w.heap.size _ n0).mono ?_
                rintro e wx ⟨rfl, rfl⟩
                rw [hB]
                go_wp2_with fail
                refine (isR_at pc nodes w.heap.size _ n0).mono ?_
                rintro e wx ⟨rfl, rfl⟩
                rw [hC]
                go_wp2_with fail
                refine (F_at 4 i _).mono ?_
                rintro e w4 ⟨rfl, f4⟩
                have GW4 := hide (gr_none GW2.out f4)
                obtain ⟨r0, r1, rf, _⟩ := rW.out w4 GW4.out
                have rf0 := rf 0
                have rf1 := rf 1
                clear rf f4
                go_wp2
                refine bodyPost_ret (v := .agg #[.int .i64 4, .int .i64 (i : Nat)]) (by simp [results, Tryz.results16, go_sem, r0, r1]) rfl ?_
                have hf := HF.out
                have hwr : wrongD dio ⟨7, pa, pb, pc, pd, v⟩ nodes = 4 := wd_leadbad (.inr rfl) (.inl hC)
                rw [HD.out, firstBadD, hwr, if_neg (by decide)] at hf
                exact ⟨by rw [HCK.out, ← hf], gr_set (gr_set (gr_none gW.out GW4.out) _ _ (by simp)) _ _ (by simp)⟩
              | true =>
                cases hD : isN pd nodes with
                | false =>
                  obtain ⟨pp0, pp1, pp2, pp3, pp4, pp5⟩ := PW.out W2 (gr_refl _ _)
                  have n0 := (rW.out W2 GW2.out).2.2.2
                  go_wp2_with fail
                  simp only [← HW2.out]
                  refine (isR_at pa nodes w.heap.size _ n0).mono ?_
                  rintro e wx ⟨rfl, rfl⟩
                  rw [hA]
                  go_wp2_with fail
                  refine (isR_at pb nodes w.heap.size _ n0).mono ?_
                  rintro e wx ⟨rfl, rfl⟩
                  rw [hB]
                  go_wp2_with fail
                  refine (isR_at pc nodes w.heap.size _ n0).mono ?_
                  rintro e wx ⟨rfl, rfl⟩
                  rw [hC]
                  go_wp2_with fail
                  refine (isR_at pd nodes w.heap.size _ n0).mono ?_
                  rintro e wx ⟨rfl, rfl⟩
                  rw [hD]
                  go_wp2_with fail
                  refine (F_at 4 i _).mono ?_
                  rintro e w4 ⟨rfl, f4⟩
                  have GW4 := hide (gr_none GW2.out f4)
                  obtain ⟨r0, r1, rf, _⟩ := rW.out w4 GW4.out
                  have rf0 := rf 0
                  have rf1 := rf 1
                  clear rf f4
                  go_wp2
                  refine bodyPost_ret (v := .agg #[.int .i64 4, .int .i64 (i : Nat)]) (by simp [results, Tryz.results16, go_sem, r0, r1]) rfl ?_
                  have hf := HF.out
                  have hwr : wrongD dio ⟨7, pa, pb, pc, pd, v⟩ nodes = 4 := wd_leadbad (.inr rfl) (.inr hD)
                  rw [HD.out, firstBadD, hwr, if_neg (by decide)] at hf
                  exact ⟨by rw [HCK.out, ← hf], gr_set (gr_set (gr_none gW.out GW4.out) _ _ (by simp)) _ _ (by simp)⟩
                | true =>
                  obtain ⟨pp0, pp1, pp2, pp3, pp4, pp5⟩ := PW.out W2 (gr_refl _ _)
                  have n0 := (rW.out W2 GW2.out).2.2.2
                  go_wp2_with fail
                  simp only [← HW2.out]
                  refine (isR_at pa nodes w.heap.size _ n0).mono ?_
                  rintro e wx ⟨rfl, rfl⟩
                  rw [hA]
                  go_wp2_with fail
                  refine (isR_at pb nodes w.heap.size _ n0).mono ?_
                  rintro e wx ⟨rfl, rfl⟩
                  rw [hB]
                  go_wp2_with fail
                  refine (isR_at pc nodes w.heap.size _ n0).mono ?_
                  rintro e wx ⟨rfl, rfl⟩
                  rw [hC]
                  go_wp2_with fail
                  refine (isR_at pd nodes w.heap.size _ n0).mono ?_
                  rintro e wx ⟨rfl, rfl⟩
                  rw [hD]
                  go_wp2
                  go_roundw
                  case rel =>
                    refine ⟨i + 1, by omega, by go_num, ?_, GW2.out⟩
                    have hf := HF.out
                    have hwr : wrongD dio ⟨7, pa, pb, pc, pd, v⟩ nodes = 0 := wd_leadok (.inr rfl) hA hB hC hD
                    rw [HD.out, firstBadD, if_pos hwr] at hf
                    exact hf
                  case measure => simp [intOf]; omega
        · skip
          cases hA : isN pa nodes with
          | false =>
            obtain ⟨pp0, pp1, pp2, pp3, pp4, pp5⟩ := PW.out W2 (gr_refl _ _)
            have n0 := (rW.out W2 GW2.out).2.2.2
            go_wp2_with fail
            simp only [← HW2.out]
            refine (isR_at pa nodes w.heap.size _ n0).mono ?_
            rintro e wx ⟨rfl, rfl⟩
            rw [hA]
            go_wp2_with fail
            refine (F_at 4 i _).mono ?_
            rintro e w4 ⟨rfl, f4⟩
            have GW4 := hide (gr_none GW2.out f4)
            obtain ⟨r0, r1, rf, _⟩ := rW.out w4 GW4.out
            have rf0 := rf 0
            have rf1 := rf 1
            clear rf f4
            go_wp2
            refine bodyPost_ret (v := .agg #[.int .i64 4, .int .i64 (i : Nat)]) (by simp [results, Tryz.results16, go_sem, r0, r1]) rfl ?_
            have hf := HF.out
            have hwr : wrongD true ⟨8, pa, pb, pc, pd, v⟩ nodes = 4 := wd_node (.inr (.inr (.inr (.inr ⟨rfl, rfl⟩)))) (by simp [hA])
            rw [HD.out, firstBadD, hwr, if_neg (by decide)] at hf
            exact ⟨by rw [HCK.out, ← hf], gr_set (gr_set (gr_none gW.out GW4.out) _ _ (by simp)) _ _ (by simp)⟩
          | true =>
            cases hB : isN pb nodes with
            | false =>
              obtain ⟨pp0, pp1, pp2, pp3, pp4, pp5⟩ := PW.out W2 (gr_refl _ _)
              have n0 := (rW.out W2 GW2.out).2.2.2
              go_wp2_with fail
              simp only [← HW2.out]
              refine (isR_at pa nodes w.heap.size _ n0).mono ?_
              rintro e wx ⟨rfl, rfl⟩
              rw [hA]
              go_wp2_with fail
              refine (isR_at pb nodes w.heap.size _ n0).mono ?_
              rintro e wx ⟨rfl, rfl⟩
              rw [hB]
              go_wp2_with fail
              refine (F_at 4 i _).mono ?_
              rintro e w4 ⟨rfl, f4⟩
              have GW4 := hide (gr_none GW2.out f4)
              obtain ⟨r0, r1, rf, _⟩ := rW.out w4 GW4.out
              have rf0 := rf 0
              have rf1 := rf 1
              clear rf f4
              go_wp2
              refine bodyPost_ret (v := .agg #[.int .i64 4, .int .i64 (i : Nat)]) (by simp [results, Tryz.results16, go_sem, r0, r1]) rfl ?_
              have hf := HF.out
              have hwr : wrongD true ⟨8, pa, pb, pc, pd, v⟩ nodes = 4 := wd_node (.inr (.inr (.inr (.inr ⟨rfl, rfl⟩)))) (by simp [hB])
              rw [HD.out, firstBadD, hwr, if_neg (by decide)] at hf
              exact ⟨by rw [HCK.out, ← hf], gr_set (gr_set (gr_none gW.out GW4.out) _ _ (by simp)) _ _ (by simp)⟩
            | true =>
              by_cases hc : pc = 0
              · by_cases hd : pd = 0
                · by_cases hv : v.data.toList = []
                  · obtain rfl : v = ⟨#[]⟩ := by rw [← Lib.mk_data v, hv]
                    subst hc hd
                    obtain ⟨pp0, pp1, pp2, pp3, pp4, pp5⟩ := PW.out W2 (gr_refl _ _)
                    have n0 := (rW.out W2 GW2.out).2.2.2
                    go_wp2_with fail
                    simp only [← HW2.out]
                    refine (isR_at pa nodes w.heap.size _ n0).mono ?_
                    rintro e wx ⟨rfl, rfl⟩
                    rw [hA]
                    go_wp2_with fail
                    refine (isR_at pb nodes w.heap.size _ n0).mono ?_
                    rintro e wx ⟨rfl, rfl⟩
                    rw [hB]
                    go_wp2
                    go_roundw
                    case rel =>
                      refine ⟨i + 1, by omega, by go_num, ?_, GW2.out⟩
                      have hf := HF.out
                      have hwr : wrongD true ⟨8, pa, pb, 0, 0, ⟨#[]⟩⟩ nodes = 0 := wd8_ok hA hB
                      rw [HD.out, firstBadD, if_pos hwr] at hf
                      exact hf
                    case measure => simp [intOf]; omega
                  · have hve := isEmpty_str hv
                    subst hc hd
                    obtain ⟨pp0, pp1, pp2, pp3, pp4, pp5⟩ := PW.out W2 (gr_refl _ _)
                    have n0 := (rW.out W2 GW2.out).2.2.2
                    go_wp2_with fail
                    simp only [← HW2.out]
                    refine (isR_at pa nodes w.heap.size _ n0).mono ?_
                    rintro e wx ⟨rfl, rfl⟩
                    rw [hA]
                    go_wp2_with fail
                    refine (isR_at pb nodes w.heap.size _ n0).mono ?_
                    rintro e wx ⟨rfl, rfl⟩
                    rw [hB]
                    go_wp2_with fail
                    refine (F_at 6 i _).mono ?_
                    rintro e w4 ⟨rfl, f4⟩
                    have GW4 := hide (gr_none GW2.out f4)
                    obtain ⟨r0, r1, rf, _⟩ := rW.out w4 GW4.out
                    have rf0 := rf 0
                    have rf1 := rf 1
                    clear rf f4
                    go_wp2
                    refine bodyPost_ret (v := .agg #[.int .i64 6, .int .i64 (i : Nat)]) (by simp [results, Tryz.results16, go_sem, r0, r1]) rfl ?_
                    have hf := HF.out
                    have hwr : wrongD true ⟨8, pa, pb, 0, 0, v⟩ nodes = 6 := wd8_val hA hB hv
                    rw [HD.out, firstBadD, hwr, if_neg (by decide)] at hf
                    exact ⟨by rw [HCK.out, ← hf], gr_set (gr_set (gr_none gW.out GW4.out) _ _ (by simp)) _ _ (by simp)⟩
                · have hdn : (pd == 0) = false := by simpa using hd
                  subst hc
                  obtain ⟨pp0, pp1, pp2, pp3, pp4, pp5⟩ := PW.out W2 (gr_refl _ _)
                  have n0 := (rW.out W2 GW2.out).2.2.2
                  go_wp2_with fail
                  simp only [← HW2.out]
                  refine (isR_at pa nodes w.heap.size _ n0).mono ?_
                  rintro e wx ⟨rfl, rfl⟩
                  rw [hA]
                  go_wp2_with fail
                  refine (isR_at pb nodes w.heap.size _ n0).mono ?_
                  rintro e wx ⟨rfl, rfl⟩
                  rw [hB]
                  go_wp2_with fail
                  refine (F_at 6 i _).mono ?_
                  rintro e w4 ⟨rfl, f4⟩
                  have GW4 := hide (gr_none GW2.out f4)
                  obtain ⟨r0, r1, rf, _⟩ := rW.out w4 GW4.out
                  have rf0 := rf 0
                  have rf1 := rf 1
                  clear rf f4
                  go_wp2
                  refine bodyPost_ret (v := .agg #[.int .i64 6, .int .i64 (i : Nat)]) (by simp [results, Tryz.results16, go_sem, r0, r1]) rfl ?_
                  have hf := HF.out
                  have hwr : wrongD true ⟨8, pa, pb, 0, pd, v⟩ nodes = 6 := wd8_form hA hB (.inr hd)
                  rw [HD.out, firstBadD, hwr, if_neg (by decide)] at hf
                  exact ⟨by rw [HCK.out, ← hf], gr_set (gr_set (gr_none gW.out GW4.out) _ _ (by simp)) _ _ (by simp)⟩
              · have hcn : (pc == 0) = false := by simpa using hc
                obtain ⟨pp0, pp1, pp2, pp3, pp4, pp5⟩ := PW.out W2 (gr_refl _ _)
                have n0 := (rW.out W2 GW2.out).2.2.2
                go_wp2_with fail
                simp only [← HW2.out]
                refine (isR_at pa nodes w.heap.size _ n0).mono ?_
                rintro e wx ⟨rfl, rfl⟩
                rw [hA]
                go_wp2_with fail
                refine (isR_at pb nodes w.heap.size _ n0).mono ?_
                rintro e wx ⟨rfl, rfl⟩
                rw [hB]
                go_wp2_with fail
                refine (F_at 6 i _).mono ?_
                rintro e w4 ⟨rfl, f4⟩
                have GW4 := hide (gr_none GW2.out f4)
                obtain ⟨r0, r1, rf, _⟩ := rW.out w4 GW4.out
                have rf0 := rf 0
                have rf1 := rf 1
                clear rf f4
                go_wp2
                refine bodyPost_ret (v := .agg #[.int .i64 6, .int .i64 (i : Nat)]) (by simp [results, Tryz.results16, go_sem, r0, r1]) rfl ?_
                have hf := HF.out
                have hwr : wrongD true ⟨8, pa, pb, pc, pd, v⟩ nodes = 6 := wd8_form hA hB (.inl hc)
                rw [HD.out, firstBadD, hwr, if_neg (by decide)] at hf
                exact ⟨by rw [HCK.out, ← hf], gr_set (gr_set (gr_none gW.out GW4.out) _ _ (by simp)) _ _ (by simp)⟩
      · have hdn : ps.drop i = [] := List.drop_of_length_le (by omega)
        have HDN := hide hdn
        obtain ⟨r0, r1, rf, _⟩ := rW.out wr HGR.out
        have rf0 := rf 0
        have rf1 := rf 1
        clear hdn HP rf
        go_wp2
        refine bodyPost_ret (v := .agg #[.int .i64 0, .int .i64 0]) (by simp [results, Tryz.results16, go_sem, r0, r1]) rfl ?_
        have hf := HF.out
        rw [HDN.out, firstBadD] at hf
        refine ⟨?_, ?_⟩
        · rw [HCK.out, ← hf]
        · exact gr_set (gr_set (gr_none gW.out HGR.out) _ _ (by simp)) _ _ (by simp)
end Go.Proofs.YtfhamfgcjdhmdaaGreatDoor
