/- The law NetChecks: the walk. -/
import Derived.Test.YtfhamfgcjdhmdaaGreatDoorNChk1
import Derived.Deep.DeepCutAuto
import Derived.Deep.RegionHeld3
namespace Go.Proofs.YtfhamfgcjdhmdaaGreatDoor
open Go.RowKit
set_option linter.unusedVariables false
set_option linter.unusedSimpArgs false

/-- The loops of the law: what was appended. -/
def WantR (W : World) (base : Nat) (css : List (List Int)) (m : Nat) (ov v : Value) (wr : World) : Prop := ∃ i : Nat, i ≤ m ∧ v = .int .i64 i ∧ Own2 wr base ov (css.take i) ∧ W.grownBy wr none

def WantR2 (W : World) (base m : Nat) (T : List Nat) (css : List (List Int)) (ov v : Value) (wr : World) : Prop := ∃ i : Nat, i ≤ m ∧ v = .int .i64 i ∧ Own2 wr base ov (loopsUpto m T css i) ∧ W.grownBy wr none

set_option maxHeartbeats 16000000 in
set_option maxRecDepth 10000 in
theorem netChecks_any (nodes : Int) (pv : Value) (ps : List Prt) (w : World) (hb : Base w) (hM : MarkAt w) (hp : PartsAt w pv ps) (hnil : ∀ c, pv = .slice none 0 c → c = 0) (hn : ps.length ≤ 100000000) (hsz : ∀ i (h : i < ps.length), ps[i].v.size ≤ 100000000) :
    Calls Tryz.prog 5 #[.agg #[.int .i64 nodes, pv]] w fun e w' => e = .returned (.bool true) ∧ w.grownBy w' none := by
  have HB := hide hb
  have HP := hide hp
  have HM := hide hM
  have HNIL := hide hnil
  have HSZ := hide hsz
  obtain ⟨ao, cap, rfl, h1, h2, h3⟩ := hp
  clear h3 hb hM hnil hsz
  obtain ⟨C, hC⟩ : ∃ C, C = checkN nodes ps := ⟨_, rfl⟩
  obtain ⟨D, hD⟩ : ∃ D, D = checkD false nodes ps := ⟨_, rfl⟩
  obtain ⟨C1, C2⟩ := C
  obtain ⟨D1, D2⟩ := D
  have HC := hide hC
  have HD := hide hD
  clear hC hD
  have hsC := fault_same C1 C2
  have hsD := fault_same D1 D2
  have GW : Hid (w.grownBy (w.alloc (Obj.cells #[.int .i64 nodes, .slice ao ps.length cap] 38)) none) := gr_alloc (gr_refl _ _) _
  have BN : Hid (∀ wx, (w.alloc (Obj.cells #[.int .i64 nodes, .slice ao ps.length cap] 38)).grownBy wx none → wx.cell? ⟨w.heap.size, 0, none⟩ = some (.int .i64 nodes) ∧ wx.cell? ⟨w.heap.size, 1, none⟩ = some (.slice ao ps.length cap)) := fun wx hg => ⟨(res_two hg).1, (res_two hg).2.1⟩
  go_enter Tryz.func5, Tryz.ntmps5
  go_wp2_with fail
  refine (looped_at _ (HB.out.keep GW.out)).mono ?_
  rintro e w1 ⟨rfl, a1⟩
  have A0 := hide a1
  have A1 := hide (gr_none GW.out a1)
  obtain ⟨b0, b1⟩ := BN.out w1 a1
  clear a1
  go_wp2_with fail
  refine (own_at nodes _ ps w1 (HM.out.keep A1.out) (HP.out.keep A1.out) HNIL.out hn).mono ?_
  rintro e w2 ⟨g, rfl, o1, o2, o3⟩
  have O1 := hide o1
  have O3 := hide o3
  have A2 := hide (gr_none A1.out o3)
  have A02 := hide (gr_none A0.out o3)
  have GW2 : Hid (w2.grownBy (w2.alloc (Obj.cells #[.int .i64 nodes, .slice (some ⟨g, 0, none⟩) ps.length (ps.length + 3)] 38)) none) := gr_alloc (gr_refl _ _) _
  have BO : Hid (∀ wx, (w2.alloc (Obj.cells #[.int .i64 nodes, .slice (some ⟨g, 0, none⟩) ps.length (ps.length + 3)] 38)).grownBy wx none → wx.cell? ⟨w2.heap.size, 0, none⟩ = some (.int .i64 nodes) ∧ wx.cell? ⟨w2.heap.size, 1, none⟩ = some (.slice (some ⟨g, 0, none⟩) ps.length (ps.length + 3))) := fun wx hg => ⟨(res_two hg).1, (res_two hg).2.1⟩
  obtain ⟨d0, d1⟩ := BN.out w2 A02.out
  have hs2 : w.heap.size < w2.heap.size := by have := A02.out.size; simp at this; omega
  clear o1 o2 o3 b0 b1
  have REF : Hid (∀ (wx : World) (dio : Bool), w.grownBy wx none → Calls Tryz.prog 16 #[.agg #[.int .i64 nodes, .slice ao ps.length cap], .bool dio] wx fun e w' => CheckDE dio wx nodes ps e w') := fun wx dio hg => refCheck_at nodes _ ps dio wx (HB.out.keep hg) (HP.out.keep hg) HSZ.out
  go_wp2_with fail
  refine (REF.out _ true (gr_none A2.out GW2.out)).mono ?_
  rintro e w3 ⟨rfl, k3⟩
  rw [checkD_true, ← HC.out]
  have A3 := hide (gr_none (gr_none A2.out GW2.out) k3)
  have A23 := hide k3
  have A03 := hide (gr_none A02.out (gr_none GW2.out k3))
  obtain ⟨W3, hW3⟩ : ∃ W3, W3 = w3.alloc (Obj.cells #[.int .i64 C1, .int .i64 C2] 26) := ⟨_, rfl⟩
  have GW3 : Hid (w3.grownBy W3 none) := by rw [hW3]; exact gr_alloc (gr_refl _ _) _
  have BF : Hid (∀ wx, W3.grownBy wx none → wx.cell? ⟨w3.heap.size, 0, none⟩ = some (.int .i64 C1) ∧ wx.cell? ⟨w3.heap.size, 1, none⟩ = some (.int .i64 C2)) := by
    intro wx hg
    rw [hW3] at hg
    exact ⟨(res_two hg).1, (res_two hg).2.1⟩
  have BN3 : Hid (∀ wx, W3.grownBy wx none → wx.cell? ⟨w.heap.size, 0, none⟩ = some (.int .i64 nodes) ∧ wx.cell? ⟨w.heap.size, 1, none⟩ = some (.slice ao ps.length cap)) := fun wx hg => BN.out wx (gr_none A03.out (gr_none GW3.out hg))
  have BO3 : Hid (∀ wx, W3.grownBy wx none → wx.cell? ⟨w2.heap.size, 0, none⟩ = some (.int .i64 nodes) ∧ wx.cell? ⟨w2.heap.size, 1, none⟩ = some (.slice (some ⟨g, 0, none⟩) ps.length (ps.length + 3))) := fun wx hg => BO.out wx (gr_none A23.out (gr_none GW3.out hg))
  have AW : Hid (w.grownBy W3 none) := gr_none A3.out GW3.out
  have OW : Hid (∀ wx, W3.grownBy wx none → PartsAt wx (.slice (some ⟨g, 0, none⟩) (ps.length + 3) (ps.length + 3)) (ps ++ [Mk, Mk, Mk])) := fun wx hg => O1.out.keep (gr_none GW2.out (gr_none A23.out (gr_none GW3.out hg)))
  have OP : Hid (∀ wx, W3.grownBy wx none → PartsAt wx (.slice (some ⟨g, 0, none⟩) ps.length (ps.length + 3)) ps) := fun wx hg => own_parts (OW.out wx hg)
  have CHK : Hid (∀ wx, W3.grownBy wx none → Calls Tryz.prog 17 #[.agg #[.int .i64 nodes, .slice (some ⟨g, 0, none⟩) ps.length (ps.length + 3)]] wx fun e w' => e = .returned (.agg #[.int .i64 C1, .int .i64 C2]) ∧ wx.grownBy w' none) := by
    intro wx hg
    refine (Check_at nodes _ ps wx (HB.out.keep (gr_none AW.out hg)) (OP.out wx hg)).mono ?_
    rintro e w' ⟨rfl, k⟩
    rw [← HC.out]
    exact ⟨rfl, k⟩
  have LIN : Hid (∀ wx, W3.grownBy wx none → Calls Tryz.prog 18 #[.agg #[.int .i64 nodes, .slice (some ⟨g, 0, none⟩) ps.length (ps.length + 3)]] wx fun e w' => e = .returned (.agg #[.int .i64 D1, .int .i64 D2]) ∧ wx.grownBy w' none) := by
    intro wx hg
    refine (Linear_at nodes _ ps wx (HB.out.keep (gr_none AW.out hg)) (OP.out wx hg)).mono ?_
    rintro e w' ⟨rfl, k⟩
    rw [← HD.out]
    exact ⟨rfl, k⟩
  have REFD : Hid (∀ wx, W3.grownBy wx none → Calls Tryz.prog 16 #[.agg #[.int .i64 nodes, .slice ao ps.length cap], .bool false] wx fun e w' => e = .returned (.agg #[.int .i64 D1, .int .i64 D2]) ∧ wx.grownBy w' none) := by
    intro wx hg
    refine (REF.out wx false (gr_none AW.out hg)).mono ?_
    rintro e w' ⟨rfl, k⟩
    rw [← HD.out]
    exact ⟨rfl, k⟩
  have ISL : Hid (∀ wx, W3.grownBy wx none → Calls Tryz.prog 19 #[.agg #[.int .i64 nodes, .slice (some ⟨g, 0, none⟩) ps.length (ps.length + 3)]] wx fun e w' => AnsE (IslP nodes ps) wx C1 C2 e w') := by
    intro wx hg
    have := isl_any nodes _ ps wx (HB.out.keep (gr_none AW.out hg)) (OP.out wx hg)
    rw [← HC.out] at this
    exact this
  have TRE : Hid (∀ wx, W3.grownBy wx none → Calls Tryz.prog 20 #[.agg #[.int .i64 nodes, .slice (some ⟨g, 0, none⟩) ps.length (ps.length + 3)]] wx fun e w' => AnsE (TreeP ps) wx C1 C2 e w') := by
    intro wx hg
    have := tree_any nodes _ ps wx (HB.out.keep (gr_none AW.out hg)) (OP.out wx hg)
    rw [← HC.out] at this
    exact this
  have LPS : Hid (∀ wx, W3.grownBy wx none → Calls Tryz.prog 21 #[.agg #[.int .i64 nodes, .slice (some ⟨g, 0, none⟩) ps.length (ps.length + 3)]] wx fun e w' => AnsE (LpsP ps) wx C1 C2 e w') := by
    intro wx hg
    have := loops_any nodes _ ps wx (HB.out.keep (gr_none AW.out hg)) (OP.out wx hg)
    rw [← HC.out] at this
    exact this
  have CUT : Hid (∀ wx, W3.grownBy wx none → Calls Tryz.prog 22 #[.agg #[.int .i64 nodes, .slice (some ⟨g, 0, none⟩) ps.length (ps.length + 3)]] wx fun e w' => AnsE (CutP ps) wx C1 C2 e w') := by
    intro wx hg
    have := cuts_any nodes _ ps wx (HB.out.keep (gr_none AW.out hg)) (OP.out wx hg)
    rw [← HC.out] at this
    exact this
  have KEP : Hid (∀ wx, W3.grownBy wx none → Calls Tryz.prog 23 #[.agg #[.int .i64 nodes, .slice (some ⟨g, 0, none⟩) ps.length (ps.length + 3)], .agg #[.int .i64 nodes, .slice ao ps.length cap]] wx fun e w' => e = .returned (.bool true) ∧ wx.grownBy w' none) := fun wx hg => kept_at nodes g _ ps wx (HM.out.keep (gr_none AW.out hg)) (HP.out.keep (gr_none AW.out hg)) (OW.out wx hg) hn
  obtain ⟨n0, n1⟩ := BN3.out W3 (gr_refl _ _)
  obtain ⟨m0, m1⟩ := BO3.out W3 (gr_refl _ _)
  obtain ⟨f0, f1⟩ := BF.out W3 (gr_refl _ _)
  have hs3 : w2.heap.size < w3.heap.size := by have := A23.out.size; simp at this; omega
  have hs3' : w3.heap.size < W3.heap.size := by rw [hW3]; simp
  clear k3 d0 d1 REF
  go_wp2
  rw [← hW3]
  clear hW3
  go_cut [35] (fun s35 wx => s35 = .bool false ∧ W3.grownBy wx none)
  case first =>
    go_region_held3 (fun w' => w'.cell? ⟨w.heap.size, 0, none⟩ = some (.int .i64 nodes) ∧ w'.cell? ⟨w.heap.size, 1, none⟩ = some (.slice ao ps.length cap) ∧ w'.cell? ⟨w2.heap.size, 0, none⟩ = some (.int .i64 nodes) ∧ w'.cell? ⟨w2.heap.size, 1, none⟩ = some (.slice (some ⟨g, 0, none⟩) ps.length (ps.length + 3)) ∧ w'.cell? ⟨w3.heap.size, 0, none⟩ = some (.int .i64 C1) ∧ w'.cell? ⟨w3.heap.size, 1, none⟩ = some (.int .i64 C2)) (go_keep)
      (first | (go_at_call 17; refine (CHK.out _ (by first | exact gr_none Gc (gr_dn2 _) | exact gr_none Gc gr_drew1 | exact Gc | exact gr_none Gb (gr_dn2 _) | exact gr_none Gb gr_drew1 | exact Gb | exact gr_none Ga (gr_dn2 _) | exact gr_none Ga gr_drew1 | exact Ga | exact gr_dn2 _ | exact gr_drew1 | exact gr_refl _ _)).mono ?_; rintro e wa ⟨rfl, ka⟩; have Ga : W3.grownBy wa none := gr_none (by first | exact gr_none Gc (gr_dn2 _) | exact gr_none Gc gr_drew1 | exact Gc | exact gr_none Gb (gr_dn2 _) | exact gr_none Gb gr_drew1 | exact Gb | exact gr_none Ga (gr_dn2 _) | exact gr_none Ga gr_drew1 | exact Ga | exact gr_dn2 _ | exact gr_drew1 | exact gr_refl _ _) ka; obtain ⟨xa0, xa1⟩ := BN3.out wa Ga; obtain ⟨ya0, ya1⟩ := BO3.out wa Ga; obtain ⟨za0, za1⟩ := BF.out wa Ga) | (go_at_call 18; refine (LIN.out _ (by first | exact gr_none Gc (gr_dn2 _) | exact gr_none Gc gr_drew1 | exact Gc | exact gr_none Gb (gr_dn2 _) | exact gr_none Gb gr_drew1 | exact Gb | exact gr_none Ga (gr_dn2 _) | exact gr_none Ga gr_drew1 | exact Ga | exact gr_dn2 _ | exact gr_drew1 | exact gr_refl _ _)).mono ?_; rintro e wb ⟨rfl, kb⟩; have Gb : W3.grownBy wb none := gr_none (by first | exact gr_none Gc (gr_dn2 _) | exact gr_none Gc gr_drew1 | exact Gc | exact gr_none Gb (gr_dn2 _) | exact gr_none Gb gr_drew1 | exact Gb | exact gr_none Ga (gr_dn2 _) | exact gr_none Ga gr_drew1 | exact Ga | exact gr_dn2 _ | exact gr_drew1 | exact gr_refl _ _) kb; obtain ⟨xb0, xb1⟩ := BN3.out wb Gb; obtain ⟨yb0, yb1⟩ := BO3.out wb Gb; obtain ⟨zb0, zb1⟩ := BF.out wb Gb) | (go_at_call 16; refine (REFD.out _ (by first | exact gr_none Gc (gr_dn2 _) | exact gr_none Gc gr_drew1 | exact Gc | exact gr_none Gb (gr_dn2 _) | exact gr_none Gb gr_drew1 | exact Gb | exact gr_none Ga (gr_dn2 _) | exact gr_none Ga gr_drew1 | exact Ga | exact gr_dn2 _ | exact gr_drew1 | exact gr_refl _ _)).mono ?_; rintro e wc ⟨rfl, kc⟩; have Gc : W3.grownBy wc none := gr_none (by first | exact gr_none Gc (gr_dn2 _) | exact gr_none Gc gr_drew1 | exact Gc | exact gr_none Gb (gr_dn2 _) | exact gr_none Gb gr_drew1 | exact Gb | exact gr_none Ga (gr_dn2 _) | exact gr_none Ga gr_drew1 | exact Ga | exact gr_dn2 _ | exact gr_drew1 | exact gr_refl _ _) kc; obtain ⟨xc0, xc1⟩ := BN3.out wc Gc; obtain ⟨yc0, yc1⟩ := BO3.out wc Gc; obtain ⟨zc0, zc1⟩ := BF.out wc Gc))
    all_goals (go_wp2_with fail; go_meet; exact ⟨rfl, by first | exact gr_none Gc (gr_dn2 _) | exact gr_none Gc gr_drew1 | exact Gc | exact gr_none Gb (gr_dn2 _) | exact gr_none Gb gr_drew1 | exact Gb | exact gr_none Ga (gr_dn2 _) | exact gr_none Ga gr_drew1 | exact Ga | exact gr_dn2 _ | exact gr_drew1 | exact gr_refl _ _⟩)
  case rest =>
    obtain ⟨rfl, hG⟩ := hcut
    have HGc := hide hG
    obtain ⟨m0, m1⟩ := BO3.out wc hG
    clear hG CHK LIN REFD n0 n1 f0 f1
    go_wp2_with fail
    refine (ISL.out _ HGc.out).mono ?_
    rintro e wp ⟨op, lp, cp, rfl, xp, yp, zp⟩
    have Xp := hide xp
    have Yp := hide yp
    have Zp := hide zp
    have Gp := hide (gr_none HGc.out zp)
    have Bp : Hid (∀ wx, (wp.alloc (Obj.cells #[.int .i64 C1, .int .i64 C2] 26)).grownBy wx none → wx.cell? ⟨wp.heap.size, 0, none⟩ = some (.int .i64 C1) ∧ wx.cell? ⟨wp.heap.size, 1, none⟩ = some (.int .i64 C2)) := fun wx hg => ⟨(res_two hg).1, (res_two hg).2.1⟩
    have Hp := hide (gr_alloc Gp.out (Obj.cells #[.int .i64 C1, .int .i64 C2] 26))
    have Ip : Hid (wp.grownBy (wp.alloc (Obj.cells #[.int .i64 C1, .int .i64 C2] 26)) none) := gr_alloc (gr_refl _ _) _
    have sp : W3.heap.size ≤ wp.heap.size := Gp.out.size
    clear xp yp zp
    clear m0 m1
    obtain ⟨m0, m1⟩ := BO3.out _ Hp.out
    go_wp2_with fail
    refine (TRE.out _ Hp.out).mono ?_
    rintro e wq ⟨oq, lq, cq, rfl, xq, yq, zq⟩
    have Xq := hide xq
    have Yq := hide yq
    have Zq := hide zq
    have Gq := hide (gr_none Hp.out zq)
    have Bq : Hid (∀ wx, (wq.alloc (Obj.cells #[.int .i64 C1, .int .i64 C2] 26)).grownBy wx none → wx.cell? ⟨wq.heap.size, 0, none⟩ = some (.int .i64 C1) ∧ wx.cell? ⟨wq.heap.size, 1, none⟩ = some (.int .i64 C2)) := fun wx hg => ⟨(res_two hg).1, (res_two hg).2.1⟩
    have Hq := hide (gr_alloc Gq.out (Obj.cells #[.int .i64 C1, .int .i64 C2] 26))
    have Iq : Hid (wq.grownBy (wq.alloc (Obj.cells #[.int .i64 C1, .int .i64 C2] 26)) none) := gr_alloc (gr_refl _ _) _
    have sq : W3.heap.size ≤ wq.heap.size := Gq.out.size
    clear xq yq zq
    clear m0 m1
    obtain ⟨m0, m1⟩ := BO3.out _ Hq.out
    go_wp2_with fail
    refine (LPS.out _ Hq.out).mono ?_
    rintro e wu ⟨ou, lu, cu, rfl, xr, yr, zr⟩
    have Xu := hide xr
    have Yu := hide yr
    have Zu := hide zr
    have Gu := hide (gr_none Hq.out zr)
    have Bu : Hid (∀ wx, (wu.alloc (Obj.cells #[.int .i64 C1, .int .i64 C2] 26)).grownBy wx none → wx.cell? ⟨wu.heap.size, 0, none⟩ = some (.int .i64 C1) ∧ wx.cell? ⟨wu.heap.size, 1, none⟩ = some (.int .i64 C2)) := fun wx hg => ⟨(res_two hg).1, (res_two hg).2.1⟩
    have Hu := hide (gr_alloc Gu.out (Obj.cells #[.int .i64 C1, .int .i64 C2] 26))
    have Iu : Hid (wu.grownBy (wu.alloc (Obj.cells #[.int .i64 C1, .int .i64 C2] 26)) none) := gr_alloc (gr_refl _ _) _
    have su : W3.heap.size ≤ wu.heap.size := Gu.out.size
    clear xr yr zr
    clear m0 m1
    obtain ⟨m0, m1⟩ := BO3.out _ Hu.out
    go_wp2_with fail
    refine (CUT.out _ Hu.out).mono ?_
    rintro e ws ⟨os, ls, cs, rfl, xs, ys, zs⟩
    have Xs := hide xs
    have Ys := hide ys
    have Zs := hide zs
    have Gs := hide (gr_none Hu.out zs)
    have Bs : Hid (∀ wx, (ws.alloc (Obj.cells #[.int .i64 C1, .int .i64 C2] 26)).grownBy wx none → wx.cell? ⟨ws.heap.size, 0, none⟩ = some (.int .i64 C1) ∧ wx.cell? ⟨ws.heap.size, 1, none⟩ = some (.int .i64 C2)) := fun wx hg => ⟨(res_two hg).1, (res_two hg).2.1⟩
    have Hs := hide (gr_alloc Gs.out (Obj.cells #[.int .i64 C1, .int .i64 C2] 26))
    have Is : Hid (ws.grownBy (ws.alloc (Obj.cells #[.int .i64 C1, .int .i64 C2] 26)) none) := gr_alloc (gr_refl _ _) _
    have ss : W3.heap.size ≤ ws.heap.size := Gs.out.size
    clear xs ys zs
    clear m0 m1
    have Js : Hid (ws.grownBy (ws.alloc (Obj.cells #[.int .i64 C1, .int .i64 C2] 26)) none) := Is.out
    have Ju : Hid (wu.grownBy (ws.alloc (Obj.cells #[.int .i64 C1, .int .i64 C2] 26)) none) := gr_none Iu.out (gr_none Zs.out Is.out)
    have Jq : Hid (wq.grownBy (ws.alloc (Obj.cells #[.int .i64 C1, .int .i64 C2] 26)) none) := gr_none Iq.out (gr_none Zu.out Ju.out)
    have Jp : Hid (wp.grownBy (ws.alloc (Obj.cells #[.int .i64 C1, .int .i64 C2] 26)) none) := gr_none Ip.out (gr_none Zq.out Jq.out)
    obtain ⟨m0, m1⟩ := BO3.out _ Hs.out
    obtain ⟨n0, n1⟩ := BN3.out _ Hs.out
    obtain ⟨f0, f1⟩ := BF.out _ Hs.out
    obtain ⟨p0, p1⟩ := Bp.out _ (gr_none Zq.out Jq.out)
    obtain ⟨q0, q1⟩ := Bq.out _ (gr_none Zu.out Ju.out)
    obtain ⟨r0, r1⟩ := Bu.out _ (gr_none Zs.out Is.out)
    obtain ⟨s0, s1⟩ := Bs.out _ (gr_refl _ _)
    go_wp2_with fail
    refine (KEP.out _ Hs.out).mono ?_
    rintro e wk ⟨rfl, kk⟩
    have KK := hide kk
    have Hk := hide (gr_none Hs.out kk)
    clear m0 m1 n0 n1 f0 f1 p0 p1 q0 q1 r0 r1 s0 s1 kk
    obtain ⟨f0, f1⟩ := BF.out _ Hk.out
    by_cases hC0 : C1 = 0
    · obtain ⟨hGood, hCC⟩ := good_of (nodes := nodes) (ps := ps) (by rw [← HC.out]; exact hC0)
      have hz := bool_of (c := C1) hC0
      obtain ⟨n, hnn⟩ : ∃ n : Nat, nodes.toNat = n := ⟨_, rfl⟩
      have hnodes : nodes = (n : Int) := by have := hGood.nodes; rw [hnn] at this; exact this
      rw [hnn] at hGood
      have RI : Hid (RowG iv wp (.slice op lp cp) (labs n (labF (prs ps)))) := by have := Yp.out hC0; unfold IslP at this; rw [hnn] at this; exact this
      have RT : Hid (RowG nv wq (.slice oq lq cq) (treeOf (prs ps))) := Yq.out hC0
      have RL : Hid (Rows2 wu (.slice ou lu cu) (loopsUpto ps.length (treeOf (prs ps)) (cutsL (prs ps) (treeOf (prs ps))) ps.length)) := Yu.out hC0
      have RC : Hid (Rows2 ws (.slice os ls cs) (cutsL (prs ps) (treeOf (prs ps)))) := Ys.out hC0
      subst hnodes
      have HGD := hide hGood
      have hm16 : ps.length ≤ 16 := hGood.len
      have hn8 : n ≤ 8 := hGood.hi
      have Kp : Hid (wp.grownBy wk none) := gr_none Jp.out KK.out
      have Kq : Hid (wq.grownBy wk none) := gr_none Jq.out KK.out
      have Ku : Hid (wu.grownBy wk none) := gr_none Ju.out KK.out
      have Ks : Hid (ws.grownBy wk none) := gr_none Js.out KK.out
      clear hGood hCC hnn Xp Xq Xu Xs Yp Yq Yu Ys ISL TRE LPS CUT KEP
      obtain ⟨n0, n1⟩ := BN3.out _ Hk.out
      go_wp2_with fail
      refine (wood_at n _ ps wk (HP.out.keep (gr_none AW.out Hk.out)) HGD.out).mono ?_
      rintro e wo ⟨tv, rfl, t1, t2⟩
      have T1 := hide t1
      obtain ⟨to_, tc, rfl, tl, tm, t3⟩ := t1
      unfold maxLen at tm
      have Ho := hide (gr_none Hk.out t2)
      have Ko := hide t2
      have HTC := hide t3
      obtain ⟨T, hT⟩ : ∃ T, T = treeOf (prs ps) := ⟨_, rfl⟩
      obtain ⟨css, hcs⟩ : ∃ css, css = cutsL (prs ps) (treeOf (prs ps)) := ⟨_, rfl⟩
      have HTL : Hid (∀ x ∈ T, x < ps.length) := by rw [hT]; exact treeOf_lt ps
      have hT16 : T.length ≤ 16 := by rw [hT]; exact treeOf_len ps hm16
      have HCL : Hid (css.length = T.length) := by show _ = _; rw [hcs, hT]; simp [cutsL]
      have HCG : Hid (∀ i (h : i < T.length), css.take (i + 1) = css.take i ++ [cutRow (without (prs ps) (treeOf (prs ps)) T[i]) (prs ps) ((prs ps).getD T[i] (0, 0)).1]) := by
        intro i h
        rw [List.take_succ_eq_append_getElem (by rw [HCL.out]; exact h)]
        subst hT hcs
        simp [cutsL]
      rw [← hT] at T1 HTC RT RL tl ⊢
      rw [← hcs] at RC
      have RL2 : Hid (Rows2 wu (.slice ou lu cu) (loopsUpto ps.length T css ps.length)) := by rw [hcs, hT]; have := RL.out; rw [hT] at this; exact this
      have CUTO : Hid (∀ (wx : World) (x : Nat), wo.grownBy wx none → x < ps.length → Calls Tryz.prog 25 #[.agg #[.int .i64 (n : Nat), .slice ao ps.length cap], .slice to_ T.length tc, .int .i64 (x : Nat)] wx fun e w' => CutOfE wx ps.length (cutRow (without (prs ps) (treeOf (prs ps)) x) (prs ps) ((prs ps).getD x (0, 0)).1) e w') := by
        intro wx x hg hx
        have hr := T1.out.keep hg
        rw [hT] at hr ⊢
        exact cutOf_at n x _ _ ps wx (HP.out.keep (gr_none AW.out (gr_none Ho.out hg))) HGD.out hr hx
      have LOOPO : Hid (∀ (wx : World) (x : Nat), wo.grownBy wx none → x < ps.length → x ∉ T → Calls Tryz.prog 27 #[.agg #[.int .i64 (n : Nat), .slice ao ps.length cap], .slice to_ T.length tc, .int .i64 (x : Nat)] wx fun e w' => LoopE wx ps.length x T css e w') := by
        intro wx x hg hx hnx
        have hr := T1.out.keep hg
        rw [hT] at hr hnx ⊢
        rw [hcs]
        exact loopOf_at n x _ _ ps wx (HP.out.keep (gr_none AW.out (gr_none Ho.out hg))) HGD.out hr hx hnx
      have HTE := hide hT
      have HCE := hide hcs
      clear t2 t3 n0 n1 hT hcs RL
      obtain ⟨base, hbase⟩ : ∃ b, b = wo.heap.size := ⟨_, rfl⟩
      have HBASE := hide hbase
      have hbw : W3.heap.size ≤ base := by rw [hbase]; exact Ho.out.size
      clear hbase
      go_wp2
      go_loopw [14, 105] (fun ov v wr => Hid (WantR wo base css T.length ov v wr)) (fun _ v _ => T.length - (intOf v).toNat)
      case atStart => exact ⟨0, by omega, rfl, own2_nil, gr_refl _ _⟩
      case round =>
        obtain ⟨i, hi, rfl, l1, l2⟩ := hrel.out
        have L1 := hide l1
        have L2 := hide l2
        obtain ⟨vals, v1, v2, v3⟩ := l1
        obtain ⟨oo, oc, ev⟩ := v1.shape
        subst ev
        obtain ⟨m0, m1⟩ := BN3.out wr (gr_none Ho.out l2)
        have V1 := hide v1
        have V2 := hide v2
        have V3 := hide v3
        clear l2 hrel v1 v2 v3
        have hvl : vals.length = i := by rw [V2.out, List.length_take, HCL.out]; omega
        have HVL := hide hvl
        clear hvl
        by_cases hlt : i < T.length
        · obtain ⟨tb, toff, rfl, htb, htc⟩ := HTC.out i hlt
          have htl := HTL.out T[i] (List.getElem_mem hlt)
          have qt := L2.out.cell htc (by simp)
          have hct := HCG.out i hlt
          have HCT := hide hct
          generalize T[i] = x at qt htl HCT
          clear htc hct HTC HCG
          go_wp2_with fail
          refine (CUTO.out _ x L2.out htl).mono ?_
          rintro e w4 ⟨gc, rfl, k1, k2, k3⟩
          have hrl : (cutRow (without (prs ps) (treeOf (prs ps)) x) (prs ps) ((prs ps).getD x (0, 0)).1).length = ps.length := by simp [cutRow, prs]
          generalize cutRow (without (prs ps) (treeOf (prs ps)) x) (prs ps) ((prs ps).getD x (0, 0)).1 = row at k1 HCT hrl
          have hgl := k1.lt
          have hrow := arr_row k1 (by rw [hrl]; unfold maxLen; omega)
          rw [hrl] at hrow
          have R1 := hide hrow
          have R2 := hide k2
          have hR2 := k2.size
          have hL2 := L2.out.size
          rw [← HBASE.out] at hL2
          clear k1 k2 hrow hrl m0 m1
          go_wp2_with (at_builtin; refine wpList_append_gl id 42 (.slice none 0 0) 24 _ rfl _ _ 45 rfl base Tryz.underlying45 Tryz.infoInts rfl _ vals rfl (V1.out.keep0 (gr_alloc R2.out _)) w4.heap.size (.slice (some ⟨gc, 0, none⟩) ps.length ps.length) rfl (by go_simp) rfl (by rw [HVL.out]; omega) (by omega) (by simp; omega) ?_)
          intro g' cap' w5 o1 o2 o3
          have O1 := hide o1
          have O2 := hide o2
          have O3 := hide o3
          clear o1 o2 o3
          go_wp2
          go_roundw
          case rel =>
            have hgr2 := gr_trans (r := (Value.slice oo vals.length oc).ownBlock) (r1 := none) (gr_alloc (gr_refl w4 none) _) O2.out (fun _ _ e => by cases e) (fun _ _ e => e)
            have hownb : ∀ k, (Value.slice oo vals.length oc).ownBlock = some k → base ≤ k ∧ k < wr.heap.size := fun k hk => V1.out.fresh k hk
            refine ⟨i + 1, by omega, by go_num, ?_, ?_⟩
            · rw [HCT.out]
              refine Own2.snoc (w1 := w4) (w := w4) (vals := vals) (ov := .slice oo vals.length oc) V2.out ?_ R1.out ⟨_, _, _, rfl⟩ ?_ O1.out hgr2 ?_
              · intro j hj hj'
                obtain ⟨k1, k2, k3⟩ := V3.out j hj hj'
                exact ⟨k1.keep R2.out, k2, fun k hk => ⟨(k3 k hk).1, Nat.lt_of_lt_of_le (k3 k hk).2.1 hR2, (k3 k hk).2.2⟩⟩
              · intro k hk
                have : gc = k := by simpa [Value.ownBlock] using hk
                subst this
                refine ⟨by omega, hgl, fun e => ?_⟩
                have := (hownb gc e.symm).2
                omega
              · rcases O3.out with h | h
                · exact .inl h
                · right
                  rw [h]
                  simp
            · exact gr_trans (gr_none L2.out R2.out) hgr2 (fun _ _ e => e) (fun b hb e => by have := (hownb b e.symm).1; rw [HBASE.out] at this; omega)
          case measure => simp [intOf]; omega
        · have htk : css.take i = css := List.take_of_length_le (by rw [HCL.out]; omega)
          have WC : Hid (Rows2 wr (.slice oo vals.length oc) css) := by have := L1.out.rows; rw [htk] at this; exact this
          have Hr := hide (gr_none Ho.out L2.out)
          have Kr := hide L2.out
          obtain ⟨base2, hbase2⟩ : ∃ b, b = wr.heap.size := ⟨_, rfl⟩
          have HBASE2 := hide hbase2
          obtain ⟨W6, hW6⟩ : ∃ W6, W6 = wr := ⟨_, rfl⟩
          rw [← hW6] at WC Hr Kr hbase2 HBASE2
          have HW6 := hide hW6
          clear htk hbase2 L1 L2 V1 V2 V3 HVL HTC HCG CUTO hW6
          go_wp2
          go_loopw [15, 120] (fun ov v wr => Hid (WantR2 W6 base2 ps.length T css ov v wr)) (fun _ v _ => ps.length - (intOf v).toNat)
          case atStart => exact ⟨0, by omega, rfl, own2_nil, by rw [HW6.out]; exact gr_refl _ _⟩
          case round =>
            obtain ⟨j, hj, rfl, l1, l2⟩ := hrel.out
            have L1 := hide l1
            have L2 := hide l2
            obtain ⟨vs, v1, v2, v3⟩ := l1
            obtain ⟨o2, c2, ev⟩ := v1.shape
            subst ev
            obtain ⟨m0, m1⟩ := BN3.out wr (gr_none Hr.out l2)
            have V1 := hide v1
            have V2 := hide v2
            have V3 := hide v3
            have hvl : vs.length ≤ j := by
              rw [v2]
              unfold loopsUpto
              rw [List.length_map]
              have := List.length_filter_le (fun x => !(T.contains x)) (List.range j)
              simpa using this
            clear l2 hrel v1 v2 v3
            by_cases hlt2 : j < ps.length
            · have hls := loopsUpto_succ ps.length T css j
              have CON := hide (contains_at _ T j wr (T1.out.keep (gr_none Kr.out L2.out)))
              cases hin : T.contains j with
              | true =>
                rw [hin] at hls CON
                rw [if_pos rfl] at hls
                have HLS := hide hls
                clear hls hin
                go_wp2_with fail
                refine CON.out.mono ?_
                rintro e wx ⟨rfl, rfl⟩
                go_wp2
                go_roundw
                case rel => exact ⟨j + 1, by omega, by go_num, by rw [HLS.out]; exact L1.out, L2.out⟩
                case measure => simp [intOf]; omega
              | false =>
                have hnot : j ∉ T := by simpa using hin
                rw [hin] at hls CON
                rw [if_neg (by simp)] at hls
                have HLS := hide hls
                have LO := hide (LOOPO.out wr j (gr_none Kr.out L2.out) hlt2 hnot)
                clear hls hin hnot
                go_wp2_with fail
                refine CON.out.mono ?_
                rintro e wx ⟨rfl, rfl⟩
                go_wp2_with fail
                refine LO.out.mono ?_
                rintro e w4 ⟨gc, rfl, k1, k2, k3⟩
                have hlv : (loopVec ps.length j T css).length = ps.length := by simp [loopVec, loopUpto_length]
                have hgl := k1.lt
                have hrow := arr_row k1 (by rw [hlv]; unfold maxLen; omega)
                rw [hlv] at hrow
                have R1 := hide hrow
                have R2 := hide k2
                have hR2 := k2.size
                have hL2 := L2.out.size
                rw [← HBASE2.out] at hL2
                clear k1 k2 hrow hlv m0 m1 LO CON
                go_wp2_with (at_builtin; refine wpList_append_gl id 42 (.slice none 0 0) 24 _ rfl _ _ 45 rfl base2 Tryz.underlying45 Tryz.infoInts rfl _ vs rfl (V1.out.keep0 (gr_alloc R2.out _)) w4.heap.size (.slice (some ⟨gc, 0, none⟩) ps.length ps.length) rfl (by go_simp) rfl (by omega) (by omega) (by simp; omega) ?_)
                intro g' cap' w5 o1 o2' o3
                have O1 := hide o1
                have O2 := hide o2'
                have O3 := hide o3
                clear o1 o2' o3
                go_wp2
                go_roundw
                case rel =>
                  have hgr2 := gr_trans (r := (Value.slice o2 vs.length c2).ownBlock) (r1 := none) (gr_alloc (gr_refl w4 none) _) O2.out (fun _ _ e => by cases e) (fun _ _ e => e)
                  have hownb : ∀ k, (Value.slice o2 vs.length c2).ownBlock = some k → base2 ≤ k ∧ k < wx.heap.size := fun k hk => V1.out.fresh k hk
                  refine ⟨j + 1, by omega, by go_num, ?_, ?_⟩
                  · rw [HLS.out]
                    refine Own2.snoc (w1 := w4) (w := w4) (vals := vs) (ov := .slice o2 vs.length c2) V2.out ?_ R1.out ⟨_, _, _, rfl⟩ ?_ O1.out hgr2 ?_
                    · intro q hq hq'
                      obtain ⟨k1, k2, k3⟩ := V3.out q hq hq'
                      exact ⟨k1.keep R2.out, k2, fun k hk => ⟨(k3 k hk).1, Nat.lt_of_lt_of_le (k3 k hk).2.1 hR2, (k3 k hk).2.2⟩⟩
                    · intro k hk
                      have : gc = k := by simpa [Value.ownBlock] using hk
                      subst this
                      refine ⟨by omega, hgl, fun e => ?_⟩
                      have := (hownb gc e.symm).2
                      omega
                    · rcases O3.out with h | h
                      · exact .inl h
                      · right
                        rw [h]
                        simp
                  · exact gr_trans (gr_none L2.out R2.out) hgr2 (fun _ _ e => e) (fun b hb e => by have := (hownb b e.symm).1; rw [HBASE2.out] at this; omega)
                case measure => simp [intOf]; omega
            · obtain rfl : j = ps.length := by omega
              have WL := hide L1.out.rows
              have Kall := hide (gr_none Kr.out L2.out)
              have Hall := hide (gr_none Hr.out L2.out)
              have hpk : picked (prs ps) (fun _ => true) ps.length = prs ps := by
                have := picked_all (prs ps)
                have e : (prs ps).length = ps.length := by simp [prs]
                rw [e] at this
                exact this
              have JO := hide (joined_all n _ ps (fun _ => true) wr (HP.out.keep (gr_none AW.out Hall.out)) HGD.out (fun i wx _ _ => yes_at i wx))
              rw [hpk] at JO
              have hll : (labs n (labF (prs ps))).length = n := labs_length _ _
              have HLL := hide hll
              clear hpk hll V1 V2 V3 L1 LOOPO
              go_wp2_with fail
              refine JO.out.mono ?_
              rintro e w7 ⟨gj, rfl, j1, j2, j3⟩
              have J1 := arr_row j1 (by rw [HLL.out]; unfold maxLen; omega)
              rw [HLL.out] at J1
              have N1 := hide J1
              have N2 := hide j2
              clear j1 j2 j3 J1 m0 m1 JO
              go_wp2_with fail
              refine (equal_at _ _ _ _ w7 (RI.out.keep (gr_none Kp.out (gr_none Ko.out (gr_none Kall.out N2.out)))) N1.out).mono ?_
              rintro e w8 ⟨rfl, q8, rfl⟩
              rw [beq_self_eq_true]
              have P8 := hide (gr_none N2.out (gr_dn2 (w := w7) q8))
              go_wp2_with fail
              refine (equal_at _ _ _ _ _ (row_of (RT.out.keep (gr_none Kq.out (gr_none Ko.out (gr_none Kall.out P8.out))))) (row_of (T1.out.keep (gr_none Kall.out P8.out)))).mono ?_
              rintro e w9 ⟨rfl, q9, rfl⟩
              rw [beq_self_eq_true]
              have P9 := hide (gr_none N2.out (gr_dn2 (w := w7) (q8 + q9)))
              go_wp2_with fail
              refine (tables_at _ _ css _ (RC.out.keep (gr_none Ks.out (gr_none Ko.out (gr_none Kall.out P9.out)))) (WC.out.keep (gr_none L2.out P9.out))).mono ?_
              rintro e w10 ⟨rfl, q10, rfl⟩
              have P10 := hide (gr_none N2.out (gr_dn2 (w := w7) (q8 + q9 + q10)))
              go_wp2_with fail
              refine (tables_at _ _ (loopsUpto ps.length T css ps.length) _ (RL2.out.keep (gr_none Ku.out (gr_none Ko.out (gr_none Kall.out P10.out)))) (WL.out.keep P10.out)).mono ?_
              rintro e w11 ⟨rfl, q11, rfl⟩
              have P11 := hide (gr_none N2.out (gr_dn2 (w := w7) (q8 + q9 + q10 + q11)))
              go_wp2
              go_ret
              exact ⟨rfl, gr_none AW.out (gr_none Hall.out P11.out)⟩
    · have hz := ne_beq (c := C1) hC0
      obtain rfl := Xp.out hC0
      obtain rfl := Xq.out hC0
      obtain rfl := Xu.out hC0
      obtain rfl := Xs.out hC0
      go_wp2
      go_ret
      exact ⟨rfl, gr_none AW.out Hk.out⟩
end Go.Proofs.YtfhamfgcjdhmdaaGreatDoor
