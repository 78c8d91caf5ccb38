/- stable: rowBelow. -/
import Derived.Test.YtklkpkkjakllfaaGreatDoorXTc
import Derived.Deep.RegionHeld3
import Derived.Deep.DeepCutAuto
set_option linter.unusedVariables false
set_option linter.unusedSimpArgs false
set_option maxHeartbeats 8000000
set_option maxRecDepth 10000
namespace Go.Proofs.YtklkpkkjakllfaaGreatDoor
open Go.RowKit
def BelR (W : World) (base la : Nat) (R : Nat → Rat) (L : Nat) (v6 v7 : Value) (wr : World) : Prop :=
  ∃ k : Nat, k + 1 ≤ la ∧ v7 = .int .i64 ((k : Int) + 1) ∧ OwnF wr base v6 k R L ∧ W.grownBy wr none
theorem below_at (ga la ca gb lb cb : Nat) (A B : Nat → Rat) (L : Nat) (w : World) (hA : FRow w ga la A L) (hB : FRow w gb lb B L) (ha0 : 0 < la) (hb0 : 0 < lb) (hlb : lb ≤ la) (hla : la ≤ 3000) (hca : la ≤ ca) (hma : ca ≤ maxLen) (hcb : lb ≤ cb) (hmb : cb ≤ maxLen) (hB0 : B 0 ≠ 0) (hBz : ∀ j, lb ≤ j → B j = 0) (hL : L ≤ 1000000000000)
    (f1 : FitW L (A 0 / B 0)) (f2 : ∀ j, FitW L (A 0 / B 0 * B j)) (f3 : ∀ j, FitW L (rowN A B j)) :
    Calls Tryz.prog 40 #[.slice (some ⟨ga, 0, none⟩) la ca, .slice (some ⟨gb, 0, none⟩) lb cb] w fun e w' => ∃ v, e = .returned v ∧ Rw w' v (la - 1) (rowN A B) L ∧ w.grownBy w' none := by
  unfold maxLen at hma hmb
  have HA := hide hA
  have HB := hide hB
  have F1 := hide f1
  have F2 := hide f2
  have F3 := hide f3
  have HB0 := hide hB0
  have HBZ := hide hBz
  have hgal := hA.lt
  have hgbl := hB.lt
  obtain ⟨uo, ul, uc, do_, dl, dc, c0, c1, c2, c3, _⟩ := hA.at 0 ha0
  obtain ⟨xo, xl, xc, yo, yl, yc, d0, d1, d2, d3, _⟩ := hB.at 0 hb0
  simp only [Nat.zero_mul, Nat.zero_add] at c0 c1 c2 d0 d1 d2
  have C3 := hide c3
  have D3 := hide d3
  clear hA hB f1 f2 f3 hB0 hBz c3 d3
  have CX : Hid (∀ wx, w.grownBy wx none → wx.cell? ⟨ga, 0, none⟩ = some (.bool (rB (A 0))) ∧ wx.cell? ⟨ga, 1, none⟩ = some (.slice uo ul uc) ∧ wx.cell? ⟨ga, 2, none⟩ = some (.slice do_ dl dc) ∧ wx.cell? ⟨gb, 0, none⟩ = some (.bool (rB (B 0))) ∧ wx.cell? ⟨gb, 1, none⟩ = some (.slice xo xl xc) ∧ wx.cell? ⟨gb, 2, none⟩ = some (.slice yo yl yc)) := by
    intro wx hg
    exact ⟨hg.cell c0 (by simp), hg.cell c1 (by simp), hg.cell c2 (by simp), hg.cell d0 (by simp), hg.cell d1 (by simp), hg.cell d2 (by simp)⟩
  clear c0 c1 c2 d0 d1 d2
  have GG : w.grownBy w none := gr_refl _ _
  obtain ⟨s0, s1, s2, s3, s4, s5⟩ := CX.out w GG
  have hi1 : (0 : Int) < (la : Int) := by omega
  have hi2 : (0 : Int) < (lb : Int) := by omega
  have n1 : w.heap.size ≠ ga := by omega
  have n2 : w.heap.size ≠ gb := by omega
  go_enter Tryz.func40, Tryz.ntmps40
  go_upto_region 1 with fail
  go_cut [5] (fun s5 wx => Hid (∃ g, s5 = .pointer (some ⟨g, 0, none⟩) ∧ w.heap.size ≤ g ∧ FRow wx g 1 (fun _ => A 0 / B 0) L ∧ w.grownBy wx none))
  case first =>
    go_region_held3 (fun w' => w'.cell? ⟨ga, 0, none⟩ = some (.bool (rB (A 0))) ∧ w'.cell? ⟨ga, 1, none⟩ = some (.slice uo ul uc) ∧ w'.cell? ⟨ga, 2, none⟩ = some (.slice do_ dl dc) ∧ w'.cell? ⟨gb, 0, none⟩ = some (.bool (rB (B 0))) ∧ w'.cell? ⟨gb, 1, none⟩ = some (.slice xo xl xc) ∧ w'.cell? ⟨gb, 2, none⟩ = some (.slice yo yl yc)) (go_keep)
      (first | (go_at_call 76; refine (qOver_at _ _ (A 0) (B 0) L L _ (C3.out.keep0 (by first | exact gr_none GG (gr_d _) | exact gr_none GG gr_d1 | exact GG | exact gr_none (gr_alloc GG _) gr_d1 | exact gr_none (gr_alloc GG _) (gr_d _) | exact gr_alloc GG _ | exact gr_alloc (gr_none GG gr_d1) _ | exact gr_alloc (gr_none GG (gr_d _)) _ | exact gr_none (gr_alloc (gr_none GG gr_d1) _) gr_d1)) (D3.out.keep0 (by first | exact gr_none GG (gr_d _) | exact gr_none GG gr_d1 | exact GG | exact gr_none (gr_alloc GG _) gr_d1 | exact gr_none (gr_alloc GG _) (gr_d _) | exact gr_alloc GG _ | exact gr_alloc (gr_none GG gr_d1) _ | exact gr_alloc (gr_none GG (gr_d _)) _ | exact gr_none (gr_alloc (gr_none GG gr_d1) _) gr_d1)) HB0.out (by omega)).mono ?_; rintro e wf ⟨v6, rfl, q1, q2⟩; obtain ⟨fo, fl, fc, fo2, fl2, fc2, rfl⟩ := q1.shape; have GG : w.grownBy wf none := gr_none (by first | exact gr_none GG (gr_d _) | exact gr_none GG gr_d1 | exact GG | exact gr_none (gr_alloc GG _) gr_d1 | exact gr_none (gr_alloc GG _) (gr_d _) | exact gr_alloc GG _ | exact gr_alloc (gr_none GG gr_d1) _ | exact gr_alloc (gr_none GG (gr_d _)) _ | exact gr_none (gr_alloc (gr_none GG gr_d1) _) gr_d1) q2; obtain ⟨b0, b1, b2, b3, b4, b5⟩ := CX.out wf GG; (try (have a3 := res_cells (gr_none gr_d1 q2 : (w.alloc (Obj.cells #[.bool false, .slice none 0 0, .slice none 0 0] 75)).grownBy wf none); obtain ⟨r0, r1, r2, rf⟩ := a3; have rf0 := rf 0; have rf1 := rf 1; have rf2 := rf 2; have GZ := hide (gr_none gr_d1 q2 : (w.alloc (Obj.cells #[.bool false, .slice none 0 0, .slice none 0 0] 75)).grownBy wf none); clear rf))))
    all_goals
      have Q1 := hide (q1.tight F1.out)
      have HG := hide GG
      clear q1 q2
      go_wp2_with fail
      go_meet
      first
        | exact ⟨_, rfl, HG.out.size, frow_new Q1.out, gr_alloc HG.out _⟩
        | (obtain ⟨z1, z2, z3⟩ := FRow.set (R := fun _ => 0) (FRow.keep0 (frow_new (w := w) (q := 0) (L := L) (t := 75) (fq_zero _ _)) GZ.out) 0 (by decide) Q1.out
           simp only [Nat.zero_mul, Nat.zero_add] at z1 z2 z3
           exact ⟨_, rfl, Nat.le_refl _, z1.congr (fun j hj => by obtain rfl : j = 0 := by omega
                                                                  rfl), gr_own2 HG.out z2 (fun k e => by cases e; exact Nat.le_refl _)⟩)
  case rest =>
    clear GG s0 s1 s2 s3 s4 s5 CX C3 D3
    obtain ⟨gq, rfl, hgq, fq, GG⟩ := hcut.out
    have FQ0 := hide fq
    have G0 := hide GG
    have hgqw := fq.lt
    clear fq GG hcut
    go_wp2
    go_loopw [6, 7, 8] (fun v6 v7 _ wr => Hid (BelR wc wc.heap.size la (rowN A B) L v6 v7 wr)) (fun _ v7 _ _ => la + 1 - (intOf v7).toNat)
    case atStart => exact ⟨0, by omega, by first | rfl | simp, ownF_nil, gr_refl _ _⟩
    case round =>
      obtain ⟨k, hk, rfl, l1, l2⟩ := hrel.out
      obtain ⟨oa, oc, rfl⟩ := l1.shape
      have L1 := hide l1
      have L2 := hide l2
      have L3 := hide (gr_none G0.out l2)
      clear l1 l2 hrel
      have hsz : wc.heap.size ≤ wr.heap.size := L2.out.size
      by_cases hlt : k + 1 < la
      · have hlt1 : ((k : Nat) : Int) + 1 < (la : Int) := by omega
        have hlt2 : (0 : Int) ≤ ((k : Nat) : Int) + 1 := by omega
        have hw1 : IntKind.i64.wrap (((k : Nat) : Int) + 1) = ((k : Nat) : Int) + 1 := IntWalk.i64_in _ ⟨by omega, by omega⟩
        obtain ⟨uo, ul, uc, do_, dl, dc, c0, c1, c2, c3, _⟩ := (HA.out.keep0 L3.out).at (k + 1) hlt
        have C3 := hide c3
        clear c3
        go_upto_region 7 with fail
        clear hw1
        obtain ⟨w2, hw2⟩ : ∃ w2, w2 = wr.alloc (Obj.cells #[.bool (rB (A (k + 1))), .slice uo ul uc, .slice do_ dl dc] 75) := ⟨_, rfl⟩
        obtain ⟨ge, hge⟩ : ∃ ge, ge = wr.heap.size := ⟨_, rfl⟩
        have G2 : Hid (wr.grownBy w2 none) := by rw [hw2]; exact gr_alloc (gr_refl _ _) _
        have E2 : Hid (FRow w2 ge 1 (fun _ => A (k + 1)) L) := by rw [hw2, hge]; exact frow_new C3.out
        have HGE : Hid (ge = wr.heap.size) := hge
        rw [← hw2, ← hge]
        clear hw2 hge c0 c1 c2 C3
        by_cases hb : k + 1 < lb
        · have hb1 : ((k : Nat) : Int) + 1 < (lb : Int) := by omega
          obtain ⟨xo, xl, xc, yo, yl, yc, x0, x1, x2, x3, _⟩ := (HB.out.keep0 (gr_none L3.out G2.out)).at (k + 1) hb
          obtain ⟨qo, ql, qc, qo2, ql2, qc2, q0, q1, q2, q3, _⟩ := (FQ0.out.keep0 (gr_none L2.out G2.out)).at 0 (by omega)
          obtain ⟨eo, el, ec, eo2, el2, ec2, e0, e1, e2, e3, _⟩ := E2.out.at 0 (by omega)
          simp only [Nat.zero_mul, Nat.zero_add] at q0 q1 q2 e0 e1 e2
          have X3 := hide x3
          have Q3 := hide q3
          have E3 := hide e3
          have CX : Hid (∀ wx, w2.grownBy wx none → (wx.cell? ⟨gb, (k + 1) * 3, none⟩ = some (.bool (rB (B (k + 1)))) ∧ wx.cell? ⟨gb, (k + 1) * 3 + 1, none⟩ = some (.slice xo xl xc) ∧ wx.cell? ⟨gb, (k + 1) * 3 + 2, none⟩ = some (.slice yo yl yc)) ∧ (wx.cell? ⟨gq, 0, none⟩ = some (.bool (rB (A 0 / B 0))) ∧ wx.cell? ⟨gq, 1, none⟩ = some (.slice qo ql qc) ∧ wx.cell? ⟨gq, 2, none⟩ = some (.slice qo2 ql2 qc2)) ∧ (wx.cell? ⟨ge, 0, none⟩ = some (.bool (rB (A (k + 1)))) ∧ wx.cell? ⟨ge, 1, none⟩ = some (.slice eo el ec) ∧ wx.cell? ⟨ge, 2, none⟩ = some (.slice eo2 el2 ec2))) := by
            intro wx hg
            exact ⟨⟨hg.cell x0 (by simp), hg.cell x1 (by simp), hg.cell x2 (by simp)⟩, ⟨hg.cell q0 (by simp), hg.cell q1 (by simp), hg.cell q2 (by simp)⟩, ⟨hg.cell e0 (by simp), hg.cell e1 (by simp), hg.cell e2 (by simp)⟩⟩
          clear x0 x1 x2 x3 q0 q1 q2 q3 e0 e1 e2 e3
          have GG : w2.grownBy w2 none := gr_refl _ _
          obtain ⟨⟨s0, s1, s2⟩, ⟨s3, s4, s5⟩, ⟨s6, s7, s8⟩⟩ := CX.out w2 GG
          have hne1 : ge ≠ gb := by have := HGE.out; have := L3.out.size; omega
          have hne2 : ge ≠ gq := by have := HGE.out; have := L2.out.size; omega
          have hne3 : ¬ gb = ge := fun e => hne1 e.symm
          have hne4 : ¬ gq = ge := fun e => hne2 e.symm
          go_upto_region 8 with fail
          go_region_with
            (first
              | (go_at_call 78; refine (qTimes_at _ _ (A 0 / B 0) (B (k + 1)) L L _ (Q3.out.keep0 (by first | exact gr_none GG (gr_d _) | exact gr_none GG gr_d1 | exact GG)) (X3.out.keep0 (by first | exact gr_none GG (gr_d _) | exact gr_none GG gr_d1 | exact GG)) (by omega)).mono ?_; rintro e wt ⟨vt, rfl, ft, gt⟩; obtain ⟨mo, ml, mc, mo2, ml2, mc2, rfl⟩ := ft.shape; have FT := hide (ft.tight (F2.out (k + 1))); have GG : w2.grownBy wt none := gr_none (by first | exact gr_none GG (gr_d _) | exact gr_none GG gr_d1 | exact GG) gt; obtain ⟨⟨t0, t1, t2⟩, ⟨t3, t4, t5⟩, ⟨t6, t7, t8⟩⟩ := CX.out wt GG; clear ft gt)
              | (go_at_call 77; refine (qMinus_at _ _ (A (k + 1)) (A 0 / B 0 * B (k + 1)) L L _ (E3.out.keep0 (by first | exact gr_none GG (gr_d _) | exact gr_none GG gr_d1 | exact GG)) (FT.out.keep0 (by first | exact gr_d _ | exact gr_d1 | exact gr_refl _ _)) (by omega)).mono ?_; rintro e wm ⟨vm, rfl, fm, gm⟩; obtain ⟨no, nl, nc, no2, nl2, nc2, rfl⟩ := fm.shape; have FM : Hid (FQ wm (.agg #[.bool (rB (A (k + 1) - A 0 / B 0 * B (k + 1))), .slice no nl nc, .slice no2 nl2 nc2]) (A (k + 1) - A 0 / B 0 * B (k + 1)) L) := fm.tight (F3.out k); have GG : w2.grownBy wm none := gr_none (by first | exact gr_none GG (gr_d _) | exact gr_none GG gr_d1 | exact GG) gm; obtain ⟨⟨m0, m1, m2⟩, ⟨m3, m4, m5⟩, ⟨m6, m7, m8⟩⟩ := CX.out wm GG; have EM := hide (E2.out.keep0 GG); obtain ⟨_, _, _, _, _, _, _, _, _, _, df⟩ := EM.out.at 0 (by omega); have df0 := df 0; have df1 := df 1; have df2 := df 2; clear fm gm df))
          all_goals
            have HGG := hide GG
            clear GG
            go_upto_region 9 with fail
            obtain ⟨w5, hw5⟩ : ∃ w5, w5 = ((wm.setCell ⟨ge, 0, none⟩ (.bool (rB (A (k + 1) - A 0 / B 0 * B (k + 1))))).setCell ⟨ge, 1, none⟩ (.slice no nl nc)).setCell ⟨ge, 2, none⟩ (.slice no2 nl2 nc2) := ⟨_, rfl⟩
            rw [← hw5]
            have S5 := EM.out.set 0 (by omega) FM.out
            simp only [Nat.zero_mul, Nat.zero_add] at S5
            rw [← hw5] at S5
            obtain ⟨z1, z2, z3⟩ := S5
            have E5 : Hid (FRow w5 ge 1 (fun _ => rowN A B k) L) := z1.congr (fun j hj => by obtain rfl : j = 0 := by omega
                                                                                             rfl)
            have G5 : Hid (wr.grownBy w5 none) := gr_own2 (gr_none G2.out HGG.out) z2 (fun b e => by have := HGE.out; cases e; omega)
            clear hw5 z1 z2 z3 s0 s1 s2 s3 s4 s5 s6 s7 s8 t0 t1 t2 t3 t4 t5 t6 t7 t8 m0 m1 m2 m3 m4 m5 m6 m7 m8 df0 df1 df2 EM FM FT HGG CX X3 Q3 E3
            obtain ⟨po, pl, pc, po2, pl2, pc2, d0, d1, d2, d3, _⟩ := E5.out.at 0 (by omega)
            simp only [Nat.zero_mul, Nat.zero_add] at d0 d1 d2
            have D5 := hide d3
            clear d3
            have hszw : wc.heap.size ≤ w5.heap.size := by have := G5.out.size; omega
            go_wp2_with (at_builtin; refine wpList_append_fs _ rfl _ _ 62 rfl wc.heap.size Tryz.underlying62 Tryz.infoF _ k (rowN A B) L rfl (L1.out.keep0 (gr_none G5.out (gr_alloc (gr_refl _ _) _))) w5.heap.size 1 1 (fun _ => rowN A B k) rfl (frow_new D5.out) (by decide) (by omega) (by simp; omega) ?_)
            intro ao5 cap5 w6 hown hgr hwk
            have HO : Hid (OwnF w6 wc.heap.size (.slice ao5 (k + 1) cap5) (k + 1) (rowN A B) L) := by
              refine hown.congr (fun i hi => ?_)
              by_cases h : i < k
              · rw [if_pos h]
              · rw [if_neg h]
                congr 1
                omega
            have HG6 : Hid (wc.grownBy w6 none) := by
              refine gr_trans (r := none) (gr_none L2.out (gr_none G5.out (gr_alloc (gr_refl _ _) _))) hgr (fun _ _ e => e) (fun b hb e => ?_)
              have := (L1.out.fresh b e.symm).1
              omega
            clear hown hgr hwk d0 d1 d2
            go_wp2
            go_roundw
            case rel => exact ⟨k + 1, by omega, by first | rfl | go_num | (simp only [Value.int.injEq, true_and]; omega), HO.out, HG6.out⟩
            case measure => simp [intOf]; omega
        · have hb1 : ¬ ((k : Nat) : Int) + 1 < (lb : Int) := by omega
          have EV : Hid (rowN A B k = A (k + 1)) := by
            show _ = _
            unfold rowN
            rw [HBZ.out (k + 1) (by omega), Rat.mul_zero]
            grind
          have E5 := hide (E2.out.congr (R' := fun _ => rowN A B k) (fun i _ => EV.out.symm))
          have G5 := G2
          obtain ⟨po, pl, pc, po2, pl2, pc2, d0, d1, d2, d3, _⟩ := E5.out.at 0 (by omega)
          simp only [Nat.zero_mul, Nat.zero_add] at d0 d1 d2
          have D5 := hide d3
          clear d3
          have hszw : wc.heap.size ≤ w2.heap.size := by have := G5.out.size; omega
          go_wp2_with (at_builtin; refine wpList_append_fs _ rfl _ _ 62 rfl wc.heap.size Tryz.underlying62 Tryz.infoF _ k (rowN A B) L rfl (L1.out.keep0 (gr_none G5.out (gr_alloc (gr_refl _ _) _))) w2.heap.size 1 1 (fun _ => rowN A B k) rfl (frow_new D5.out) (by decide) (by omega) (by simp; omega) ?_)
          intro ao5 cap5 w6 hown hgr hwk
          have HO : Hid (OwnF w6 wc.heap.size (.slice ao5 (k + 1) cap5) (k + 1) (rowN A B) L) := by
            refine hown.congr (fun i hi => ?_)
            by_cases h : i < k
            · rw [if_pos h]
            · rw [if_neg h]
              congr 1
              omega
          have HG6 : Hid (wc.grownBy w6 none) := by
            refine gr_trans (r := none) (gr_none L2.out (gr_none G5.out (gr_alloc (gr_refl _ _) _))) hgr (fun _ _ e => e) (fun b hb e => ?_)
            have := (L1.out.fresh b e.symm).1
            omega
          clear hown hgr hwk d0 d1 d2
          go_wp2
          go_roundw
          case rel => exact ⟨k + 1, by omega, by first | rfl | go_num | (simp only [Value.int.injEq, true_and]; omega), HO.out, HG6.out⟩
          case measure => simp [intOf]; omega
      · have hlt1 : ¬ ((k : Nat) : Int) + 1 < (la : Int) := by omega
        have ek : k = la - 1 := by omega
        have EK := hide ek
        clear ek
        go_wp2
        go_ret
        exact ⟨_, rfl, by rw [← EK.out]; exact L1.out.rowF, L3.out⟩
end Go.Proofs.YtklkpkkjakllfaaGreatDoor
