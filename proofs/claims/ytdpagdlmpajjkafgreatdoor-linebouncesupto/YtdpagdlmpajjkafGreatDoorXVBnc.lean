/- line: Bounce. -/
import Derived.Test.YtdpagdlmpajjkafGreatDoorXVc
namespace Go.Proofs.YtdpagdlmpajjkafGreatDoor
open Go.RowKit
set_option linter.unusedVariables false
set_option linter.unusedSimpArgs false
set_option maxHeartbeats 32000000 in
set_option maxRecDepth 10000 in
theorem bounce_ok (sa sb sc sd : ByteArray) (v s z r : Rat) (k : Nat) (m : Int) (L : Nat) (w : World) (hk : k ≤ 50) (hv : v = ofR sa.data.toList) (hs : s = ofR sb.data.toList) (hz : z = ofR sc.data.toList) (hr : r = ofR sd.data.toList) (ha : sa.size ≤ 600000000) (hb : sb.size ≤ 600000000) (hc : sc.size ≤ 600000000) (hd : sd.size ≤ 600000000) (fv : FitW L v) (fs : FitW L s) (fz : FitW L z) (fr : FitW L r) (hL : L ≤ 10000000) (hml : w.cell? ⟨0, 0, none⟩ = some (.int .i64 m)) (B : Nat) (W f g : Rat) (hWe : W = v * z / (s + z)) (hFe : f = W + W * ((r - z) / (r + z))) (hGe : g = (s - z) / (s + z) * ((r - z) / (r + z))) (hz0 : 0 < z) (hs1 : 0 ≤ s) (hr1 : 0 ≤ r) (hB : ∀ i, i ≤ 50 → FitW B (bo W f g i)) (hBl : B ≤ 50000000000) (htab : Tab10 w) :
    Calls Tryz.prog 33 #[.string sa, .string sb, .string sc, .string sd, .int .i64 (k : Nat)] w fun e w' => ∃ ao cap, e = .returned (.tuple #[.slice ao (k + 1) cap, .int .i64 0]) ∧ RowG sv w' (.slice ao (k + 1) cap) (textsL (bo W f g) (k + 1)) ∧ w.grownBy w' none := by
  have HV := hide hv
  have HS := hide hs
  have HZ := hide hz
  have HR := hide hr
  have FVv := hide (hv ▸ fv)
  have FSs := hide (hs ▸ fs)
  have FZz := hide fz
  have FRr := hide (hr ▸ fr)
  have HM := hide hml
  clear hv hs hz hr fv fs fz fr hml
  have hk1 : (k : Int) ≤ 50 := by omega
  have hkd : decide ((k : Int) < 0) = false := decide_eq_false (by omega)
  have hke : decide (50 < (k : Int)) = false := decide_eq_false (by omega)
  have HTB := hide htab
  have HFB := hide hB
  have HWE := hide hWe
  have HFE := hide hFe
  have HGE := hide hGe
  clear htab hB hWe hFe hGe
  have hs0 : ¬ s < 0 := Rat.not_lt.2 hs1
  have hr0 : ¬ r < 0 := Rat.not_lt.2 hr1
  have N1 : Hid (s + z ≠ 0) := by unfold Hid; grind
  have N2 : Hid (r + z ≠ 0) := by unfold Hid; grind
  go_enter Tryz.func33, Tryz.ntmps33
  go_wp2_with fail
  refine (lineOf_at sc z m L w HZ.out hc FZz.out HM.out).mono ?_
  rintro e w1 h1
  obtain ⟨g1, lk, lo1, ll1, lc1, lo2, ll2, lc2, rfl, p1⟩ := h1.good hz0
  have P1 := hide p1
  have G1 := hide g1
  clear p1 g1 h1
  go_upto_region 4 with fail
  obtain ⟨W2, hW2⟩ : ∃ wz, wz = (w1.alloc (Obj.cells #[.bool lk, .slice lo1 ll1 lc1, .slice lo2 ll2 lc2] 114)) := ⟨_, rfl⟩
  have GW2 : Hid (w1.grownBy W2 none) := by rw [hW2]; exact gr_alloc (gr_refl _ _) _
  have BL : Hid (∀ wx, W2.grownBy wx none → BoxC wx w1.heap.size #[.bool lk, .slice lo1 ll1 lc1, .slice lo2 ll2 lc2]) := by
    intro wx g
    rw [hW2] at g
    exact (boxNew w1 #[.bool lk, .slice lo1 ll1 lc1, .slice lo2 ll2 lc2] 114).keep0 g
  rw [← hW2]
  clear hW2
  have GA := hide (gr_none G1.out GW2.out)
  go_wp2_with fail
  refine (qOf_fit sb m L _ hb FSs.out (gr_cell GA.out HM.out)).mono ?_
  rintro e w3 ⟨v3, rfl, p3, g3⟩
  rw [← HS.out] at p3
  obtain ⟨sk, so1, sl1, sc1, so2, sl2, sc2, rfl⟩ := p3.letters
  have P3 := hide p3
  have G3 := hide g3
  clear p3 g3
  go_wp2_with fail
  refine (qOf_fit sd m L _ hd FRr.out (gr_cell (gr_none GA.out G3.out) HM.out)).mono ?_
  rintro e w4 ⟨v4, rfl, p4, g4⟩
  rw [← HR.out] at p4
  obtain ⟨rk, ro1, rl1, rc1, ro2, rl2, rc2, rfl⟩ := p4.letters
  have P4 := hide p4
  have G4 := hide g4
  clear p4 g4
  go_upto_region 5 with fail
  obtain ⟨W5, hW5⟩ : ∃ W, W = ((w4.alloc (Obj.cells #[.bool sk, .slice so1 sl1 sc1, .slice so2 sl2 sc2] 114)).alloc (Obj.cells #[.bool rk, .slice ro1 rl1 rc1, .slice ro2 rl2 rc2] 114)) := ⟨_, rfl⟩
  have GW5 : Hid (w4.grownBy W5 none) := by rw [hW5]; exact gr_alloc (gr_alloc (gr_refl _ _) _) _
  have BN : Hid (∀ wx, W5.grownBy wx none → BoxC wx (w4.heap.size) #[.bool sk, .slice so1 sl1 sc1, .slice so2 sl2 sc2]) := by
    intro wx hg
    rw [hW5] at hg
    have h0 := (boxNew' w4 #[.bool sk, .slice so1 sl1 sc1, .slice so2 sl2 sc2] 114 (w4.heap.size) (by simp))
    exact ((h0).keep0 (gr_alloc (gr_refl _ _) _)).keep0 hg
  have BFa : Hid (∀ wx, W5.grownBy wx none → BoxC wx (w4.heap.size + 1) #[.bool rk, .slice ro1 rl1 rc1, .slice ro2 rl2 rc2]) := by
    intro wx hg
    rw [hW5] at hg
    have h0 := (boxNew' (w4.alloc (Obj.cells #[.bool sk, .slice so1 sl1 sc1, .slice so2 sl2 sc2] 114)) #[.bool rk, .slice ro1 rl1 rc1, .slice ro2 rl2 rc2] 114 (w4.heap.size + 1) (by simp))
    exact (h0).keep0 hg
  rw [← hW5]
  clear hW5
  have GB := hide (gr_none (gr_none G3.out G4.out) GW5.out)
  have GC := hide (gr_none GA.out GB.out)
  obtain ⟨n0, n1, n2, nf0, nf1, nf2⟩ := (BN.out W5 (gr_refl _ _)).c3
  go_wp2_with fail
  refine (fSign_at _ s L W5 (P3.out.keep0 (gr_none G4.out GW5.out))).mono ?_
  rintro e w6 ⟨rfl, g6⟩
  have G6 := hide g6
  clear g6
  obtain ⟨sg1, hsg1⟩ : ∃ x, x = s.num.sign := ⟨_, rfl⟩
  rw [← hsg1]
  have hsd1 : decide (sg1 < 0) = false := by rw [hsg1]; exact decide_eq_false (fun e => hs0 (sign_neg.1 e))
  have HSG1 := hide hsg1
  clear hsg1
  obtain ⟨f0, f1, f2, ff0, ff1, ff2⟩ := (BFa.out w6 G6.out).c3
  go_wp2_with fail
  refine (fSign_at _ r L w6 ((P4.out.keep0 GW5.out).keep0 G6.out)).mono ?_
  rintro e w7 ⟨rfl, g7⟩
  have G7 := hide (gr_none G6.out g7)
  clear g7
  obtain ⟨sg2, hsg2⟩ : ∃ x, x = r.num.sign := ⟨_, rfl⟩
  rw [← hsg2]
  have hsd2 : decide (sg2 < 0) = false := by rw [hsg2]; exact decide_eq_false (fun e => hr0 (sign_neg.1 e))
  have HSG2 := hide hsg2
  clear hsg2
  have GD := hide (gr_none GC.out G7.out)
  have GE := hide (gr_none GB.out G7.out)
  have B7L : Hid (∀ wx, w7.grownBy wx none → BoxC wx w1.heap.size #[.bool lk, .slice lo1 ll1 lc1, .slice lo2 ll2 lc2]) := fun wx g => BL.out wx (gr_none GE.out g)
  have B7N : Hid (∀ wx, w7.grownBy wx none → BoxC wx w4.heap.size #[.bool sk, .slice so1 sl1 sc1, .slice so2 sl2 sc2]) := fun wx g => BN.out wx (gr_none G7.out g)
  have B7F : Hid (∀ wx, w7.grownBy wx none → BoxC wx (w4.heap.size + 1) #[.bool rk, .slice ro1 rl1 rc1, .slice ro2 rl2 rc2]) := fun wx g => BFa.out wx (gr_none G7.out g)
  have QL := hide ((P1.out.keep0 GW2.out).keep0 GE.out)
  have QN := hide (P3.out.keep0 (gr_none (gr_none G4.out GW5.out) G7.out))
  have QF := hide (P4.out.keep0 (gr_none GW5.out G7.out))
  have hl1 := (B7L.out w7 (gr_refl _ _)).lt
  have hl2 := (B7N.out w7 (gr_refl _ _)).lt
  have hl3 := (B7F.out w7 (gr_refl _ _)).lt
  have hu_1 : ¬ w7.heap.size = w1.heap.size := by omega
  have hv_1 : ¬ w1.heap.size = w7.heap.size := by omega
  have hu_2 : ¬ w7.heap.size = w4.heap.size := by omega
  have hv_2 : ¬ w4.heap.size = w7.heap.size := by omega
  have hu_3 : ¬ w7.heap.size = w4.heap.size + 1 := by omega
  have hv_3 : ¬ w4.heap.size + 1 = w7.heap.size := by omega
  clear BL BN BFa n0 n1 n2 nf0 nf1 nf2 f0 f1 f2 ff0 ff1 ff2 GB
  go_upto_region 7 with fail
  have GG : w7.grownBy w7 none := gr_refl _ _
  obtain ⟨zl0, zl1, zl2, zlf0, zlf1, zlf2⟩ := (B7L.out w7 GG).c3
  obtain ⟨zn0, zn1, zn2, znf0, znf1, znf2⟩ := (B7N.out w7 GG).c3
  go_cut [16] (fun sx wx => Hid (∃ b, w7.heap.size ≤ b ∧ sx = .pointer (some ⟨b, 0, none⟩) ∧ w7.grownBy wx none ∧ ∃ c0 c1 c2, BoxC wx b #[c0, c1, c2] ∧ FQ wx (.agg #[c0, c1, c2]) (v * z / (s + z)) (4 * L + 5)))
  case first =>
    go_region_held3 (fun w' => w'.cell? ⟨w1.heap.size, 0, none⟩ = some (.bool lk) ∧ w'.cell? ⟨w1.heap.size, 1, none⟩ = some (.slice lo1 ll1 lc1) ∧ w'.cell? ⟨w1.heap.size, 2, none⟩ = some (.slice lo2 ll2 lc2) ∧ w'.cell? ⟨w4.heap.size, 0, none⟩ = some (.bool sk) ∧ w'.cell? ⟨w4.heap.size, 1, none⟩ = some (.slice so1 sl1 sc1) ∧ w'.cell? ⟨w4.heap.size, 2, none⟩ = some (.slice so2 sl2 sc2)) (go_keep)
      (first | (go_at_call 84; refine (qOf_fit sa m L _ ha FVv.out (gr_cell (gr_none GD.out (by first | exact gr_none GG (gr_d _) | exact gr_none GG gr_d1 | exact GG | exact gr_alloc GG _ | exact gr_alloc (gr_none GG gr_d1) _ | exact gr_alloc (gr_none GG (gr_d _)) _)) HM.out)).mono ?_; rintro e wa ⟨va, rfl, pa, ga⟩; obtain ⟨ak, ao1, al1, ac1, ao2, al2, ac2, rfl⟩ := pa.letters; have KP := gr_none (by first | exact gr_d _ | exact gr_d1 | exact gr_alloc gr_d1 _ | exact gr_alloc (gr_d _) _ | exact gr_alloc (gr_refl _ _) _ | exact gr_refl _ _) ga; have GG : w7.grownBy wa none := gr_none (by first | exact gr_none GG (gr_d _) | exact gr_none GG gr_d1 | exact GG | exact gr_alloc GG _ | exact gr_alloc (gr_none GG gr_d1) _ | exact gr_alloc (gr_none GG (gr_d _)) _) ga; clear KP; rw [← HV.out] at pa; have hs_a : w7.heap.size ≤ wa.heap.size := GG.size; have hu_a0 : ¬ wa.heap.size = w1.heap.size := (by omega); have hv_a0 : ¬ w1.heap.size = wa.heap.size := (by omega); have hu_a1 : ¬ wa.heap.size = w4.heap.size := (by omega); have hv_a1 : ¬ w4.heap.size = wa.heap.size := (by omega); obtain ⟨a_zl0, a_zl1, a_zl2, a_zlf0, a_zlf1, a_zlf2⟩ := (B7L.out wa GG).c3; obtain ⟨a_zn0, a_zn1, a_zn2, a_znf0, a_znf1, a_znf2⟩ := (B7N.out wa GG).c3; (first | (have BA := BA.keep0 ga; obtain ⟨n_a0, n_a1, n_a2, n_af0, n_af1, n_af2⟩ := BA.c3) | (have BA := (boxNew' (World.drew w7) #[.bool false, .slice none 0 0, .slice none 0 0] 114 w7.heap.size rfl).keep0 ga; obtain ⟨n_a0, n_a1, n_a2, n_af0, n_af1, n_af2⟩ := BA.c3) | (have BA := (boxNew _ #[.bool false, .slice none 0 0, .slice none 0 0] 114).keep0 ga; obtain ⟨n_a0, n_a1, n_a2, n_af0, n_af1, n_af2⟩ := BA.c3) | skip)) | (go_at_call 86; refine (qTimes_at _ _ v z L L _ (pa.keep0 (by first | exact gr_d _ | exact gr_d1 | exact gr_alloc gr_d1 _ | exact gr_alloc (gr_d _) _ | exact gr_alloc (gr_refl _ _) _ | exact gr_refl _ _)) (QL.out.keep0 (by first | exact gr_none GG (gr_d _) | exact gr_none GG gr_d1 | exact GG | exact gr_alloc GG _ | exact gr_alloc (gr_none GG gr_d1) _ | exact gr_alloc (gr_none GG (gr_d _)) _)) (by omega)).mono ?_; rintro e wb ⟨vb, rfl, pb, gb⟩; obtain ⟨bk, bo1, bl1, bc1, bo2, bl2, bc2, rfl⟩ := pb.letters; have KP := gr_none (by first | exact gr_d _ | exact gr_d1 | exact gr_alloc gr_d1 _ | exact gr_alloc (gr_d _) _ | exact gr_alloc (gr_refl _ _) _ | exact gr_refl _ _) gb; have GG : w7.grownBy wb none := gr_none (by first | exact gr_none GG (gr_d _) | exact gr_none GG gr_d1 | exact GG | exact gr_alloc GG _ | exact gr_alloc (gr_none GG gr_d1) _ | exact gr_alloc (gr_none GG (gr_d _)) _) gb; (try have pa := pa.keep0 KP); clear KP; have hs_b : w7.heap.size ≤ wb.heap.size := GG.size; have hu_b0 : ¬ wb.heap.size = w1.heap.size := (by omega); have hv_b0 : ¬ w1.heap.size = wb.heap.size := (by omega); have hu_b1 : ¬ wb.heap.size = w4.heap.size := (by omega); have hv_b1 : ¬ w4.heap.size = wb.heap.size := (by omega); obtain ⟨b_zl0, b_zl1, b_zl2, b_zlf0, b_zlf1, b_zlf2⟩ := (B7L.out wb GG).c3; obtain ⟨b_zn0, b_zn1, b_zn2, b_znf0, b_znf1, b_znf2⟩ := (B7N.out wb GG).c3; (first | (have BA := BA.keep0 gb; obtain ⟨n_b0, n_b1, n_b2, n_bf0, n_bf1, n_bf2⟩ := BA.c3) | (have BA := (boxNew' (World.drew w7) #[.bool false, .slice none 0 0, .slice none 0 0] 114 w7.heap.size rfl).keep0 gb; obtain ⟨n_b0, n_b1, n_b2, n_bf0, n_bf1, n_bf2⟩ := BA.c3) | (have BA := (boxNew _ #[.bool false, .slice none 0 0, .slice none 0 0] 114).keep0 gb; obtain ⟨n_b0, n_b1, n_b2, n_bf0, n_bf1, n_bf2⟩ := BA.c3) | skip)) | (go_at_call 88; refine (qPlus_at _ _ s z L L _ (QN.out.keep0 (by first | exact gr_none GG (gr_d _) | exact gr_none GG gr_d1 | exact GG | exact gr_alloc GG _ | exact gr_alloc (gr_none GG gr_d1) _ | exact gr_alloc (gr_none GG (gr_d _)) _)) (QL.out.keep0 (by first | exact gr_none GG (gr_d _) | exact gr_none GG gr_d1 | exact GG | exact gr_alloc GG _ | exact gr_alloc (gr_none GG gr_d1) _ | exact gr_alloc (gr_none GG (gr_d _)) _)) (by omega)).mono ?_; rintro e wc ⟨vc, rfl, pc, gc⟩; obtain ⟨ck, co1, cl1, cc1, co2, cl2, cc2, rfl⟩ := pc.letters; have KP := gr_none (by first | exact gr_d _ | exact gr_d1 | exact gr_alloc gr_d1 _ | exact gr_alloc (gr_d _) _ | exact gr_alloc (gr_refl _ _) _ | exact gr_refl _ _) gc; have GG : w7.grownBy wc none := gr_none (by first | exact gr_none GG (gr_d _) | exact gr_none GG gr_d1 | exact GG | exact gr_alloc GG _ | exact gr_alloc (gr_none GG gr_d1) _ | exact gr_alloc (gr_none GG (gr_d _)) _) gc; (try have pa := pa.keep0 KP); (try have pb := pb.keep0 KP); clear KP; have hs_c : w7.heap.size ≤ wc.heap.size := GG.size; have hu_c0 : ¬ wc.heap.size = w1.heap.size := (by omega); have hv_c0 : ¬ w1.heap.size = wc.heap.size := (by omega); have hu_c1 : ¬ wc.heap.size = w4.heap.size := (by omega); have hv_c1 : ¬ w4.heap.size = wc.heap.size := (by omega); obtain ⟨c_zl0, c_zl1, c_zl2, c_zlf0, c_zlf1, c_zlf2⟩ := (B7L.out wc GG).c3; obtain ⟨c_zn0, c_zn1, c_zn2, c_znf0, c_znf1, c_znf2⟩ := (B7N.out wc GG).c3; (first | (have BA := BA.keep0 gc; obtain ⟨n_c0, n_c1, n_c2, n_cf0, n_cf1, n_cf2⟩ := BA.c3) | (have BA := (boxNew' (World.drew w7) #[.bool false, .slice none 0 0, .slice none 0 0] 114 w7.heap.size rfl).keep0 gc; obtain ⟨n_c0, n_c1, n_c2, n_cf0, n_cf1, n_cf2⟩ := BA.c3) | (have BA := (boxNew _ #[.bool false, .slice none 0 0, .slice none 0 0] 114).keep0 gc; obtain ⟨n_c0, n_c1, n_c2, n_cf0, n_cf1, n_cf2⟩ := BA.c3) | skip)) | (go_at_call 87; refine (qOver_at _ _ (v * z) (s + z) (L + L + 1) (L + L + 2) _ (pb.keep0 (by first | exact gr_d _ | exact gr_d1 | exact gr_alloc gr_d1 _ | exact gr_alloc (gr_d _) _ | exact gr_alloc (gr_refl _ _) _ | exact gr_refl _ _)) (pc.keep0 (by first | exact gr_d _ | exact gr_d1 | exact gr_alloc gr_d1 _ | exact gr_alloc (gr_d _) _ | exact gr_alloc (gr_refl _ _) _ | exact gr_refl _ _)) N1.out (by omega)).mono ?_; rintro e wd ⟨vd, rfl, pd, gd⟩; obtain ⟨dk, do1, dl1, dc1, do2, dl2, dc2, rfl⟩ := pd.letters; have KP := gr_none (by first | exact gr_d _ | exact gr_d1 | exact gr_alloc gr_d1 _ | exact gr_alloc (gr_d _) _ | exact gr_alloc (gr_refl _ _) _ | exact gr_refl _ _) gd; have GG : w7.grownBy wd none := gr_none (by first | exact gr_none GG (gr_d _) | exact gr_none GG gr_d1 | exact GG | exact gr_alloc GG _ | exact gr_alloc (gr_none GG gr_d1) _ | exact gr_alloc (gr_none GG (gr_d _)) _) gd; (try have pa := pa.keep0 KP); (try have pb := pb.keep0 KP); (try have pc := pc.keep0 KP); clear KP; have hs_d : w7.heap.size ≤ wd.heap.size := GG.size; have hu_d0 : ¬ wd.heap.size = w1.heap.size := (by omega); have hv_d0 : ¬ w1.heap.size = wd.heap.size := (by omega); have hu_d1 : ¬ wd.heap.size = w4.heap.size := (by omega); have hv_d1 : ¬ w4.heap.size = wd.heap.size := (by omega); obtain ⟨d_zl0, d_zl1, d_zl2, d_zlf0, d_zlf1, d_zlf2⟩ := (B7L.out wd GG).c3; obtain ⟨d_zn0, d_zn1, d_zn2, d_znf0, d_znf1, d_znf2⟩ := (B7N.out wd GG).c3; (first | (have BA := BA.keep0 gd; obtain ⟨n_d0, n_d1, n_d2, n_df0, n_df1, n_df2⟩ := BA.c3) | (have BA := (boxNew' (World.drew w7) #[.bool false, .slice none 0 0, .slice none 0 0] 114 w7.heap.size rfl).keep0 gd; obtain ⟨n_d0, n_d1, n_d2, n_df0, n_df1, n_df2⟩ := BA.c3) | (have BA := (boxNew _ #[.bool false, .slice none 0 0, .slice none 0 0] 114).keep0 gd; obtain ⟨n_d0, n_d1, n_d2, n_df0, n_df1, n_df2⟩ := BA.c3) | skip)))
    all_goals
      have HGd := hide GG
      have PB := hide (pd.mono (show _ ≤ 4 * L + 5 by omega))
      clear pa pb pc pd
      go_wp2
      go_meet
      first
        | (have BA2 := BA; exact ⟨_, (by first | exact Nat.le_refl _ | omega | (simp; done) | (simp; omega)), rfl, gr_set (gr_set (gr_set (HGd.out) _ _ (by first | (simp; done) | (simp; omega))) _ _ (by first | (simp; done) | (simp; omega))) _ _ (by first | (simp; done) | (simp; omega)), _, _, _, BA2.set3, PB.out.kept (BA2.kept3 _ _ _ (noWd3 _ _ _ _ _ _ _))⟩)
        | exact ⟨_, HGd.out.size, rfl, gr_alloc HGd.out _, _, _, _, boxNew _ _ _, PB.out.keep0 (gr_alloc (gr_refl _ _) _)⟩
  case rest =>
    obtain ⟨wA, hren⟩ : ∃ x, x = wc := ⟨_, rfl⟩
    obtain rfl := hren
    obtain ⟨bV, hbV, rfl, gc, c0, c1, c2, bc, pc⟩ := hcut.out
    obtain ⟨vk, vo1, vl1, vc1, vo2, vl2, vc2, rfl, rfl, rfl⟩ := pc.flat
    have PV := hide pc
    have GV := hide gc
    have BV : Hid (∀ wx, wA.grownBy wx none → BoxC wx bV #[.bool vk, .slice vo1 vl1 vc1, .slice vo2 vl2 vc2]) := fun wx g => bc.keep0 g
    replace B7L : Hid (∀ wx, wA.grownBy wx none → BoxC wx w1.heap.size #[.bool lk, .slice lo1 ll1 lc1, .slice lo2 ll2 lc2]) := fun wx g => B7L.out wx (gr_none gc g)
    replace B7N : Hid (∀ wx, wA.grownBy wx none → BoxC wx w4.heap.size #[.bool sk, .slice so1 sl1 sc1, .slice so2 sl2 sc2]) := fun wx g => B7N.out wx (gr_none gc g)
    replace B7F : Hid (∀ wx, wA.grownBy wx none → BoxC wx (w4.heap.size + 1) #[.bool rk, .slice ro1 rl1 rc1, .slice ro2 rl2 rc2]) := fun wx g => B7F.out wx (gr_none gc g)
    clear hcut pc gc bc
    rw [← HWE.out] at PV
    replace QL := hide (QL.out.keep0 GV.out)
    replace QN := hide (QN.out.keep0 GV.out)
    replace QF := hide (QF.out.keep0 GV.out)
    have GD2 := hide (gr_none GD.out GV.out)
    clear zl0 zl1 zl2 zlf0 zlf1 zlf2 zn0 zn1 zn2 znf0 znf1 znf2 hu_1 hv_1 hu_2 hv_2 hu_3 hv_3
    have GSZ := GV.out.size
    have hl4 := (BV.out wA (gr_refl _ _)).lt
    have hu_0 : ¬ wA.heap.size = w1.heap.size := by (have := GSZ; omega)
    have hv_0 : ¬ w1.heap.size = wA.heap.size := by (have := GSZ; omega)
    have hu_1 : ¬ wA.heap.size = w4.heap.size + 1 := by (have := GSZ; omega)
    have hv_1 : ¬ w4.heap.size + 1 = wA.heap.size := by (have := GSZ; omega)
    have hu_2 : ¬ wA.heap.size = bV := by (have := GSZ; omega)
    have hv_2 : ¬ bV = wA.heap.size := by (have := GSZ; omega)
    go_upto_region 8 with fail
    have GG : wA.grownBy wA none := gr_refl _ _
    obtain ⟨zl0, zl1, zl2, zlf0, zlf1, zlf2⟩ := (B7L.out wA GG).c3
    obtain ⟨zf0, zf1, zf2, zff0, zff1, zff2⟩ := (B7F.out wA GG).c3
    obtain ⟨zv0, zv1, zv2, zvf0, zvf1, zvf2⟩ := (BV.out wA GG).c3
    go_cut [17] (fun sx wx => Hid (∃ b, wA.heap.size ≤ b ∧ sx = .pointer (some ⟨b, 0, none⟩) ∧ wA.grownBy wx none ∧ ∃ c0 c1 c2, BoxC wx b #[c0, c1, c2] ∧ FQ wx (.agg #[c0, c1, c2]) (W + W * ((r - z) / (r + z))) (24 * L + 39)))
    case first =>
      go_region_held3 (fun w' => w'.cell? ⟨w1.heap.size, 0, none⟩ = some (.bool lk) ∧ w'.cell? ⟨w1.heap.size, 1, none⟩ = some (.slice lo1 ll1 lc1) ∧ w'.cell? ⟨w1.heap.size, 2, none⟩ = some (.slice lo2 ll2 lc2) ∧ w'.cell? ⟨w4.heap.size + 1, 0, none⟩ = some (.bool rk) ∧ w'.cell? ⟨w4.heap.size + 1, 1, none⟩ = some (.slice ro1 rl1 rc1) ∧ w'.cell? ⟨w4.heap.size + 1, 2, none⟩ = some (.slice ro2 rl2 rc2) ∧ w'.cell? ⟨bV, 0, none⟩ = some (.bool vk) ∧ w'.cell? ⟨bV, 1, none⟩ = some (.slice vo1 vl1 vc1) ∧ w'.cell? ⟨bV, 2, none⟩ = some (.slice vo2 vl2 vc2)) (go_keep)
        (first | (go_at_call 89; refine (backAt_at _ _ r z L L _ (QF.out.keep0 (by first | exact gr_none GG (gr_d _) | exact gr_none GG gr_d1 | exact GG | exact gr_alloc GG _ | exact gr_alloc (gr_none GG gr_d1) _ | exact gr_alloc (gr_none GG (gr_d _)) _)) (QL.out.keep0 (by first | exact gr_none GG (gr_d _) | exact gr_none GG gr_d1 | exact GG | exact gr_alloc GG _ | exact gr_alloc (gr_none GG gr_d1) _ | exact gr_alloc (gr_none GG (gr_d _)) _)) N2.out (by omega)).mono ?_; rintro e wa ⟨va, rfl, pa, ga⟩; obtain ⟨ak, ao1, al1, ac1, ao2, al2, ac2, rfl⟩ := pa.letters; have KP := gr_none (by first | exact gr_d _ | exact gr_d1 | exact gr_alloc gr_d1 _ | exact gr_alloc (gr_d _) _ | exact gr_alloc (gr_refl _ _) _ | exact gr_refl _ _) ga; have GG : wA.grownBy wa none := gr_none (by first | exact gr_none GG (gr_d _) | exact gr_none GG gr_d1 | exact GG | exact gr_alloc GG _ | exact gr_alloc (gr_none GG gr_d1) _ | exact gr_alloc (gr_none GG (gr_d _)) _) ga; clear KP; have hs_a : wA.heap.size ≤ wa.heap.size := GG.size; have hu_a0 : ¬ wa.heap.size = w1.heap.size := (by omega); have hv_a0 : ¬ w1.heap.size = wa.heap.size := (by omega); have hu_a1 : ¬ wa.heap.size = w4.heap.size + 1 := (by omega); have hv_a1 : ¬ w4.heap.size + 1 = wa.heap.size := (by omega); have hu_a2 : ¬ wa.heap.size = bV := (by omega); have hv_a2 : ¬ bV = wa.heap.size := (by omega); obtain ⟨a_zl0, a_zl1, a_zl2, a_zlf0, a_zlf1, a_zlf2⟩ := (B7L.out wa GG).c3; obtain ⟨a_zf0, a_zf1, a_zf2, a_zff0, a_zff1, a_zff2⟩ := (B7F.out wa GG).c3; obtain ⟨a_zv0, a_zv1, a_zv2, a_zvf0, a_zvf1, a_zvf2⟩ := (BV.out wa GG).c3; (first | (have BA := BA.keep0 ga; obtain ⟨n_a0, n_a1, n_a2, n_af0, n_af1, n_af2⟩ := BA.c3) | (have BA := (boxNew' (World.drew wA) #[.bool false, .slice none 0 0, .slice none 0 0] 114 wA.heap.size rfl).keep0 ga; obtain ⟨n_a0, n_a1, n_a2, n_af0, n_af1, n_af2⟩ := BA.c3) | (have BA := (boxNew _ #[.bool false, .slice none 0 0, .slice none 0 0] 114).keep0 ga; obtain ⟨n_a0, n_a1, n_a2, n_af0, n_af1, n_af2⟩ := BA.c3) | skip)) | (go_at_call 86; refine (qTimes_at _ _ W ((r - z) / (r + z)) (4 * L + 5) (8 * (L + L) + 26) _ (PV.out.keep0 (by first | exact gr_none GG (gr_d _) | exact gr_none GG gr_d1 | exact GG | exact gr_alloc GG _ | exact gr_alloc (gr_none GG gr_d1) _ | exact gr_alloc (gr_none GG (gr_d _)) _)) (pa.keep0 (by first | exact gr_d _ | exact gr_d1 | exact gr_alloc gr_d1 _ | exact gr_alloc (gr_d _) _ | exact gr_alloc (gr_refl _ _) _ | exact gr_refl _ _)) (by omega)).mono ?_; rintro e wb ⟨vb, rfl, pb, gb⟩; obtain ⟨bk, bo1, bl1, bc1, bo2, bl2, bc2, rfl⟩ := pb.letters; have KP := gr_none (by first | exact gr_d _ | exact gr_d1 | exact gr_alloc gr_d1 _ | exact gr_alloc (gr_d _) _ | exact gr_alloc (gr_refl _ _) _ | exact gr_refl _ _) gb; have GG : wA.grownBy wb none := gr_none (by first | exact gr_none GG (gr_d _) | exact gr_none GG gr_d1 | exact GG | exact gr_alloc GG _ | exact gr_alloc (gr_none GG gr_d1) _ | exact gr_alloc (gr_none GG (gr_d _)) _) gb; (try have pa := pa.keep0 KP); clear KP; have hs_b : wA.heap.size ≤ wb.heap.size := GG.size; have hu_b0 : ¬ wb.heap.size = w1.heap.size := (by omega); have hv_b0 : ¬ w1.heap.size = wb.heap.size := (by omega); have hu_b1 : ¬ wb.heap.size = w4.heap.size + 1 := (by omega); have hv_b1 : ¬ w4.heap.size + 1 = wb.heap.size := (by omega); have hu_b2 : ¬ wb.heap.size = bV := (by omega); have hv_b2 : ¬ bV = wb.heap.size := (by omega); obtain ⟨b_zl0, b_zl1, b_zl2, b_zlf0, b_zlf1, b_zlf2⟩ := (B7L.out wb GG).c3; obtain ⟨b_zf0, b_zf1, b_zf2, b_zff0, b_zff1, b_zff2⟩ := (B7F.out wb GG).c3; obtain ⟨b_zv0, b_zv1, b_zv2, b_zvf0, b_zvf1, b_zvf2⟩ := (BV.out wb GG).c3; (first | (have BA := BA.keep0 gb; obtain ⟨n_b0, n_b1, n_b2, n_bf0, n_bf1, n_bf2⟩ := BA.c3) | (have BA := (boxNew' (World.drew wA) #[.bool false, .slice none 0 0, .slice none 0 0] 114 wA.heap.size rfl).keep0 gb; obtain ⟨n_b0, n_b1, n_b2, n_bf0, n_bf1, n_bf2⟩ := BA.c3) | (have BA := (boxNew _ #[.bool false, .slice none 0 0, .slice none 0 0] 114).keep0 gb; obtain ⟨n_b0, n_b1, n_b2, n_bf0, n_bf1, n_bf2⟩ := BA.c3) | skip)) | (go_at_call 88; refine (qPlus_at _ _ W (W * ((r - z) / (r + z))) (4 * L + 5) (4 * L + 5 + (8 * (L + L) + 26) + 1) _ (PV.out.keep0 (by first | exact gr_none GG (gr_d _) | exact gr_none GG gr_d1 | exact GG | exact gr_alloc GG _ | exact gr_alloc (gr_none GG gr_d1) _ | exact gr_alloc (gr_none GG (gr_d _)) _)) (pb.keep0 (by first | exact gr_d _ | exact gr_d1 | exact gr_alloc gr_d1 _ | exact gr_alloc (gr_d _) _ | exact gr_alloc (gr_refl _ _) _ | exact gr_refl _ _)) (by omega)).mono ?_; rintro e wc ⟨vc, rfl, pc, gc⟩; obtain ⟨ck, co1, cl1, cc1, co2, cl2, cc2, rfl⟩ := pc.letters; have KP := gr_none (by first | exact gr_d _ | exact gr_d1 | exact gr_alloc gr_d1 _ | exact gr_alloc (gr_d _) _ | exact gr_alloc (gr_refl _ _) _ | exact gr_refl _ _) gc; have GG : wA.grownBy wc none := gr_none (by first | exact gr_none GG (gr_d _) | exact gr_none GG gr_d1 | exact GG | exact gr_alloc GG _ | exact gr_alloc (gr_none GG gr_d1) _ | exact gr_alloc (gr_none GG (gr_d _)) _) gc; (try have pa := pa.keep0 KP); (try have pb := pb.keep0 KP); clear KP; have hs_c : wA.heap.size ≤ wc.heap.size := GG.size; have hu_c0 : ¬ wc.heap.size = w1.heap.size := (by omega); have hv_c0 : ¬ w1.heap.size = wc.heap.size := (by omega); have hu_c1 : ¬ wc.heap.size = w4.heap.size + 1 := (by omega); have hv_c1 : ¬ w4.heap.size + 1 = wc.heap.size := (by omega); have hu_c2 : ¬ wc.heap.size = bV := (by omega); have hv_c2 : ¬ bV = wc.heap.size := (by omega); obtain ⟨c_zl0, c_zl1, c_zl2, c_zlf0, c_zlf1, c_zlf2⟩ := (B7L.out wc GG).c3; obtain ⟨c_zf0, c_zf1, c_zf2, c_zff0, c_zff1, c_zff2⟩ := (B7F.out wc GG).c3; obtain ⟨c_zv0, c_zv1, c_zv2, c_zvf0, c_zvf1, c_zvf2⟩ := (BV.out wc GG).c3; (first | (have BA := BA.keep0 gc; obtain ⟨n_c0, n_c1, n_c2, n_cf0, n_cf1, n_cf2⟩ := BA.c3) | (have BA := (boxNew' (World.drew wA) #[.bool false, .slice none 0 0, .slice none 0 0] 114 wA.heap.size rfl).keep0 gc; obtain ⟨n_c0, n_c1, n_c2, n_cf0, n_cf1, n_cf2⟩ := BA.c3) | (have BA := (boxNew _ #[.bool false, .slice none 0 0, .slice none 0 0] 114).keep0 gc; obtain ⟨n_c0, n_c1, n_c2, n_cf0, n_cf1, n_cf2⟩ := BA.c3) | skip)))
      all_goals
        have HGd := hide GG
        have PB := hide (pc.mono (show _ ≤ 24 * L + 39 by omega))
        clear pa pb pc
        go_wp2
        go_meet
        first
          | (have BA2 := BA; exact ⟨_, (by first | exact Nat.le_refl _ | omega | (simp; done) | (simp; omega)), rfl, gr_set (gr_set (gr_set (HGd.out) _ _ (by first | (simp; done) | (simp; omega))) _ _ (by first | (simp; done) | (simp; omega))) _ _ (by first | (simp; done) | (simp; omega)), _, _, _, BA2.set3, PB.out.kept (BA2.kept3 _ _ _ (noWd3 _ _ _ _ _ _ _))⟩)
          | exact ⟨_, HGd.out.size, rfl, gr_alloc HGd.out _, _, _, _, boxNew _ _ _, PB.out.keep0 (gr_alloc (gr_refl _ _) _)⟩
    case rest =>
      obtain ⟨wB, hren⟩ : ∃ x, x = wc := ⟨_, rfl⟩
      obtain rfl := hren
      obtain ⟨bT, hbT, rfl, gc, c0, c1, c2, bc, pc⟩ := hcut.out
      obtain ⟨tk, to1, tl1, tc1, to2, tl2, tc2, rfl, rfl, rfl⟩ := pc.flat
      have PT := hide pc
      have GT := hide gc
      have BT : Hid (∀ wx, wB.grownBy wx none → BoxC wx bT #[.bool tk, .slice to1 tl1 tc1, .slice to2 tl2 tc2]) := fun wx g => bc.keep0 g
      replace B7L : Hid (∀ wx, wB.grownBy wx none → BoxC wx w1.heap.size #[.bool lk, .slice lo1 ll1 lc1, .slice lo2 ll2 lc2]) := fun wx g => B7L.out wx (gr_none gc g)
      replace B7N : Hid (∀ wx, wB.grownBy wx none → BoxC wx w4.heap.size #[.bool sk, .slice so1 sl1 sc1, .slice so2 sl2 sc2]) := fun wx g => B7N.out wx (gr_none gc g)
      replace B7F : Hid (∀ wx, wB.grownBy wx none → BoxC wx (w4.heap.size + 1) #[.bool rk, .slice ro1 rl1 rc1, .slice ro2 rl2 rc2]) := fun wx g => B7F.out wx (gr_none gc g)
      replace BV : Hid (∀ wx, wB.grownBy wx none → BoxC wx bV #[.bool vk, .slice vo1 vl1 vc1, .slice vo2 vl2 vc2]) := fun wx g => BV.out wx (gr_none gc g)
      clear hcut pc gc bc
      rw [← HFE.out] at PT
      replace QL := hide (QL.out.keep0 GT.out)
      replace QN := hide (QN.out.keep0 GT.out)
      replace QF := hide (QF.out.keep0 GT.out)
      replace PV := hide (PV.out.keep0 GT.out)
      have GD3 := hide (gr_none GD2.out GT.out)
      clear zl0 zl1 zl2 zlf0 zlf1 zlf2 zf0 zf1 zf2 zff0 zff1 zff2 zv0 zv1 zv2 zvf0 zvf1 zvf2 hu_0 hv_0 hu_1 hv_1 hu_2 hv_2
      have GSY := GT.out.size
      have hl5 := (BT.out wB (gr_refl _ _)).lt
      have hu_0 : ¬ wB.heap.size = w1.heap.size := by (have := GSZ; omega)
      have hv_0 : ¬ w1.heap.size = wB.heap.size := by (have := GSZ; omega)
      have hu_1 : ¬ wB.heap.size = w4.heap.size := by (have := GSZ; omega)
      have hv_1 : ¬ w4.heap.size = wB.heap.size := by (have := GSZ; omega)
      have hu_2 : ¬ wB.heap.size = w4.heap.size + 1 := by (have := GSZ; omega)
      have hv_2 : ¬ w4.heap.size + 1 = wB.heap.size := by (have := GSZ; omega)
      go_upto_region 9 with fail
      have GG : wB.grownBy wB none := gr_refl _ _
      obtain ⟨zl0, zl1, zl2, zlf0, zlf1, zlf2⟩ := (B7L.out wB GG).c3
      obtain ⟨zn0, zn1, zn2, znf0, znf1, znf2⟩ := (B7N.out wB GG).c3
      obtain ⟨zf0, zf1, zf2, zff0, zff1, zff2⟩ := (B7F.out wB GG).c3
      go_cut [18] (fun sx wx => Hid (∃ b, wB.heap.size ≤ b ∧ sx = .pointer (some ⟨b, 0, none⟩) ∧ wB.grownBy wx none ∧ ∃ c0 c1 c2, BoxC wx b #[c0, c1, c2] ∧ FQ wx (.agg #[c0, c1, c2]) ((s - z) / (s + z) * ((r - z) / (r + z))) (32 * L + 53)))
      case first =>
        go_region_held3 (fun w' => w'.cell? ⟨w1.heap.size, 0, none⟩ = some (.bool lk) ∧ w'.cell? ⟨w1.heap.size, 1, none⟩ = some (.slice lo1 ll1 lc1) ∧ w'.cell? ⟨w1.heap.size, 2, none⟩ = some (.slice lo2 ll2 lc2) ∧ w'.cell? ⟨w4.heap.size, 0, none⟩ = some (.bool sk) ∧ w'.cell? ⟨w4.heap.size, 1, none⟩ = some (.slice so1 sl1 sc1) ∧ w'.cell? ⟨w4.heap.size, 2, none⟩ = some (.slice so2 sl2 sc2) ∧ w'.cell? ⟨w4.heap.size + 1, 0, none⟩ = some (.bool rk) ∧ w'.cell? ⟨w4.heap.size + 1, 1, none⟩ = some (.slice ro1 rl1 rc1) ∧ w'.cell? ⟨w4.heap.size + 1, 2, none⟩ = some (.slice ro2 rl2 rc2)) (go_keep)
          (first | (go_at_call_of 89 (Value.agg #[.bool sk, .slice so1 sl1 sc1, .slice so2 sl2 sc2]); refine (backAt_at _ _ s z L L _ (QN.out.keep0 (by first | exact gr_none GG (gr_d _) | exact gr_none GG gr_d1 | exact GG | exact gr_alloc GG _ | exact gr_alloc (gr_none GG gr_d1) _ | exact gr_alloc (gr_none GG (gr_d _)) _)) (QL.out.keep0 (by first | exact gr_none GG (gr_d _) | exact gr_none GG gr_d1 | exact GG | exact gr_alloc GG _ | exact gr_alloc (gr_none GG gr_d1) _ | exact gr_alloc (gr_none GG (gr_d _)) _)) N1.out (by omega)).mono ?_; rintro e wa ⟨va, rfl, pa, ga⟩; obtain ⟨ak, ao1, al1, ac1, ao2, al2, ac2, rfl⟩ := pa.letters; have KP := gr_none (by first | exact gr_d _ | exact gr_d1 | exact gr_alloc gr_d1 _ | exact gr_alloc (gr_d _) _ | exact gr_alloc (gr_refl _ _) _ | exact gr_refl _ _) ga; have GG : wB.grownBy wa none := gr_none (by first | exact gr_none GG (gr_d _) | exact gr_none GG gr_d1 | exact GG | exact gr_alloc GG _ | exact gr_alloc (gr_none GG gr_d1) _ | exact gr_alloc (gr_none GG (gr_d _)) _) ga; clear KP; have hs_a : wB.heap.size ≤ wa.heap.size := GG.size; have hu_a0 : ¬ wa.heap.size = w1.heap.size := (by omega); have hv_a0 : ¬ w1.heap.size = wa.heap.size := (by omega); have hu_a1 : ¬ wa.heap.size = w4.heap.size := (by omega); have hv_a1 : ¬ w4.heap.size = wa.heap.size := (by omega); have hu_a2 : ¬ wa.heap.size = w4.heap.size + 1 := (by omega); have hv_a2 : ¬ w4.heap.size + 1 = wa.heap.size := (by omega); obtain ⟨a_zl0, a_zl1, a_zl2, a_zlf0, a_zlf1, a_zlf2⟩ := (B7L.out wa GG).c3; obtain ⟨a_zn0, a_zn1, a_zn2, a_znf0, a_znf1, a_znf2⟩ := (B7N.out wa GG).c3; obtain ⟨a_zf0, a_zf1, a_zf2, a_zff0, a_zff1, a_zff2⟩ := (B7F.out wa GG).c3; (first | (have BA := BA.keep0 ga; obtain ⟨n_a0, n_a1, n_a2, n_af0, n_af1, n_af2⟩ := BA.c3) | (have BA := (boxNew' (World.drew wB) #[.bool false, .slice none 0 0, .slice none 0 0] 114 wB.heap.size rfl).keep0 ga; obtain ⟨n_a0, n_a1, n_a2, n_af0, n_af1, n_af2⟩ := BA.c3) | (have BA := (boxNew _ #[.bool false, .slice none 0 0, .slice none 0 0] 114).keep0 ga; obtain ⟨n_a0, n_a1, n_a2, n_af0, n_af1, n_af2⟩ := BA.c3) | skip)) | (go_at_call_of 89 (Value.agg #[.bool rk, .slice ro1 rl1 rc1, .slice ro2 rl2 rc2]); refine (backAt_at _ _ r z L L _ (QF.out.keep0 (by first | exact gr_none GG (gr_d _) | exact gr_none GG gr_d1 | exact GG | exact gr_alloc GG _ | exact gr_alloc (gr_none GG gr_d1) _ | exact gr_alloc (gr_none GG (gr_d _)) _)) (QL.out.keep0 (by first | exact gr_none GG (gr_d _) | exact gr_none GG gr_d1 | exact GG | exact gr_alloc GG _ | exact gr_alloc (gr_none GG gr_d1) _ | exact gr_alloc (gr_none GG (gr_d _)) _)) N2.out (by omega)).mono ?_; rintro e wb ⟨vb, rfl, pb, gb⟩; obtain ⟨bk, bo1, bl1, bc1, bo2, bl2, bc2, rfl⟩ := pb.letters; have KP := gr_none (by first | exact gr_d _ | exact gr_d1 | exact gr_alloc gr_d1 _ | exact gr_alloc (gr_d _) _ | exact gr_alloc (gr_refl _ _) _ | exact gr_refl _ _) gb; have GG : wB.grownBy wb none := gr_none (by first | exact gr_none GG (gr_d _) | exact gr_none GG gr_d1 | exact GG | exact gr_alloc GG _ | exact gr_alloc (gr_none GG gr_d1) _ | exact gr_alloc (gr_none GG (gr_d _)) _) gb; (try have pa := pa.keep0 KP); clear KP; have hs_b : wB.heap.size ≤ wb.heap.size := GG.size; have hu_b0 : ¬ wb.heap.size = w1.heap.size := (by omega); have hv_b0 : ¬ w1.heap.size = wb.heap.size := (by omega); have hu_b1 : ¬ wb.heap.size = w4.heap.size := (by omega); have hv_b1 : ¬ w4.heap.size = wb.heap.size := (by omega); have hu_b2 : ¬ wb.heap.size = w4.heap.size + 1 := (by omega); have hv_b2 : ¬ w4.heap.size + 1 = wb.heap.size := (by omega); obtain ⟨b_zl0, b_zl1, b_zl2, b_zlf0, b_zlf1, b_zlf2⟩ := (B7L.out wb GG).c3; obtain ⟨b_zn0, b_zn1, b_zn2, b_znf0, b_znf1, b_znf2⟩ := (B7N.out wb GG).c3; obtain ⟨b_zf0, b_zf1, b_zf2, b_zff0, b_zff1, b_zff2⟩ := (B7F.out wb GG).c3; (first | (have BA := BA.keep0 gb; obtain ⟨n_b0, n_b1, n_b2, n_bf0, n_bf1, n_bf2⟩ := BA.c3) | (have BA := (boxNew' (World.drew wB) #[.bool false, .slice none 0 0, .slice none 0 0] 114 wB.heap.size rfl).keep0 gb; obtain ⟨n_b0, n_b1, n_b2, n_bf0, n_bf1, n_bf2⟩ := BA.c3) | (have BA := (boxNew _ #[.bool false, .slice none 0 0, .slice none 0 0] 114).keep0 gb; obtain ⟨n_b0, n_b1, n_b2, n_bf0, n_bf1, n_bf2⟩ := BA.c3) | skip)) | (go_at_call 86; refine (qTimes_at _ _ ((s - z) / (s + z)) ((r - z) / (r + z)) (8 * (L + L) + 26) (8 * (L + L) + 26) _ (pa.keep0 (by first | exact gr_d _ | exact gr_d1 | exact gr_alloc gr_d1 _ | exact gr_alloc (gr_d _) _ | exact gr_alloc (gr_refl _ _) _ | exact gr_refl _ _)) (pb.keep0 (by first | exact gr_d _ | exact gr_d1 | exact gr_alloc gr_d1 _ | exact gr_alloc (gr_d _) _ | exact gr_alloc (gr_refl _ _) _ | exact gr_refl _ _)) (by omega)).mono ?_; rintro e wc ⟨vc, rfl, pc, gc⟩; obtain ⟨ck, co1, cl1, cc1, co2, cl2, cc2, rfl⟩ := pc.letters; have KP := gr_none (by first | exact gr_d _ | exact gr_d1 | exact gr_alloc gr_d1 _ | exact gr_alloc (gr_d _) _ | exact gr_alloc (gr_refl _ _) _ | exact gr_refl _ _) gc; have GG : wB.grownBy wc none := gr_none (by first | exact gr_none GG (gr_d _) | exact gr_none GG gr_d1 | exact GG | exact gr_alloc GG _ | exact gr_alloc (gr_none GG gr_d1) _ | exact gr_alloc (gr_none GG (gr_d _)) _) gc; (try have pa := pa.keep0 KP); (try have pb := pb.keep0 KP); clear KP; have hs_c : wB.heap.size ≤ wc.heap.size := GG.size; have hu_c0 : ¬ wc.heap.size = w1.heap.size := (by omega); have hv_c0 : ¬ w1.heap.size = wc.heap.size := (by omega); have hu_c1 : ¬ wc.heap.size = w4.heap.size := (by omega); have hv_c1 : ¬ w4.heap.size = wc.heap.size := (by omega); have hu_c2 : ¬ wc.heap.size = w4.heap.size + 1 := (by omega); have hv_c2 : ¬ w4.heap.size + 1 = wc.heap.size := (by omega); obtain ⟨c_zl0, c_zl1, c_zl2, c_zlf0, c_zlf1, c_zlf2⟩ := (B7L.out wc GG).c3; obtain ⟨c_zn0, c_zn1, c_zn2, c_znf0, c_znf1, c_znf2⟩ := (B7N.out wc GG).c3; obtain ⟨c_zf0, c_zf1, c_zf2, c_zff0, c_zff1, c_zff2⟩ := (B7F.out wc GG).c3; (first | (have BA := BA.keep0 gc; obtain ⟨n_c0, n_c1, n_c2, n_cf0, n_cf1, n_cf2⟩ := BA.c3) | (have BA := (boxNew' (World.drew wB) #[.bool false, .slice none 0 0, .slice none 0 0] 114 wB.heap.size rfl).keep0 gc; obtain ⟨n_c0, n_c1, n_c2, n_cf0, n_cf1, n_cf2⟩ := BA.c3) | (have BA := (boxNew _ #[.bool false, .slice none 0 0, .slice none 0 0] 114).keep0 gc; obtain ⟨n_c0, n_c1, n_c2, n_cf0, n_cf1, n_cf2⟩ := BA.c3) | skip)))
        all_goals
          have HGd := hide GG
          have PB := hide (pc.mono (show _ ≤ 32 * L + 53 by omega))
          clear pa pb pc
          go_wp2
          go_meet
          first
            | (have BA2 := BA; exact ⟨_, (by first | exact Nat.le_refl _ | omega | (simp; done) | (simp; omega)), rfl, gr_set (gr_set (gr_set (HGd.out) _ _ (by first | (simp; done) | (simp; omega))) _ _ (by first | (simp; done) | (simp; omega))) _ _ (by first | (simp; done) | (simp; omega)), _, _, _, BA2.set3, PB.out.kept (BA2.kept3 _ _ _ (noWd3 _ _ _ _ _ _ _))⟩)
            | exact ⟨_, HGd.out.size, rfl, gr_alloc HGd.out _, _, _, _, boxNew _ _ _, PB.out.keep0 (gr_alloc (gr_refl _ _) _)⟩
      case rest =>
        obtain ⟨wD, hren⟩ : ∃ x, x = wc := ⟨_, rfl⟩
        obtain rfl := hren
        obtain ⟨bU, hbU, rfl, gc, c0, c1, c2, bc, pc⟩ := hcut.out
        obtain ⟨qk, qo1, ql1, qc1, qo2, ql2, qc2, rfl, rfl, rfl⟩ := pc.flat
        have PU := hide pc
        have GU := hide gc
        have BU : Hid (∀ wx, wD.grownBy wx none → BoxC wx bU #[.bool qk, .slice qo1 ql1 qc1, .slice qo2 ql2 qc2]) := fun wx g => bc.keep0 g
        replace BV : Hid (∀ wx, wD.grownBy wx none → BoxC wx bV #[.bool vk, .slice vo1 vl1 vc1, .slice vo2 vl2 vc2]) := fun wx g => BV.out wx (gr_none gc g)
        replace BT : Hid (∀ wx, wD.grownBy wx none → BoxC wx bT #[.bool tk, .slice to1 tl1 tc1, .slice to2 tl2 tc2]) := fun wx g => BT.out wx (gr_none gc g)
        clear hcut pc gc bc
        rw [← HGE.out] at PU
        replace PV := hide (PV.out.keep0 GU.out)
        replace PT := hide (PT.out.keep0 GU.out)
        have GD4 := hide (gr_none GD3.out GU.out)
        clear zl0 zl1 zl2 zlf0 zlf1 zlf2 zn0 zn1 zn2 znf0 znf1 znf2 zf0 zf1 zf2 zff0 zff1 zff2 hu_0 hv_0 hu_1 hv_1 hu_2 hv_2 QL QN QF
        have GSX := GU.out.size
        have hl6 := (BU.out wD (gr_refl _ _)).lt
        obtain ⟨zv0, zv1, zv2, zvf0, zvf1, zvf2⟩ := (BV.out wD (gr_refl _ _)).c3
        go_upto_region 11 with fail
        obtain ⟨WH, hWH⟩ : ∃ wz, wz = (wD.alloc (Obj.cells #[.bool vk, .slice vo1 vl1 vc1, .slice vo2 vl2 vc2, .bool false, .slice none 0 0, .slice none 0 0] 132)) := ⟨_, rfl⟩
        have GWH : Hid (wD.grownBy WH none) := by rw [hWH]; exact gr_alloc (gr_refl _ _) _
        have BH : Hid (∀ wx, WH.grownBy wx none → BoxC wx wD.heap.size #[.bool vk, .slice vo1 vl1 vc1, .slice vo2 vl2 vc2, .bool false, .slice none 0 0, .slice none 0 0]) := by
          intro wx g
          rw [hWH] at g
          exact (boxNew wD #[.bool vk, .slice vo1 vl1 vc1, .slice vo2 vl2 vc2, .bool false, .slice none 0 0, .slice none 0 0] 132).keep0 g
        rw [← hWH]
        have hwh : wD.heap.size + 1 ≤ WH.heap.size := by rw [hWH]; simp
        clear hWH zv0 zv1 zv2 zvf0 zvf1 zvf2
        obtain ⟨zv0, zv1, zv2, zvf0, zvf1, zvf2⟩ := (BV.out WH GWH.out).c3
        go_wp2_with fail
        refine (fQ_at _ W (4 * L + 5) _ (PV.out.keep0 GWH.out) (by omega) (HTB.out.keep0 (gr_none GD4.out GWH.out))).mono ?_
        rintro e wQ ⟨rfl, gq⟩
        have GQ := hide (gr_none GWH.out gq)
        have hwq : wD.heap.size + 1 ≤ wQ.heap.size := Nat.le_trans hwh gq.size
        have BHQ := hide (BH.out wQ gq)
        clear gq zv0 zv1 zv2 zvf0 zvf1 zvf2
        have HF0 : Hid (FitW B W) := HFB.out 0 (Nat.zero_le _)
        clear ha hb hc hd
        obtain ⟨w0, hw0⟩ : ∃ x, x = wD := ⟨_, rfl⟩
        obtain rfl := hw0
        obtain ⟨hb, hhb⟩ : ∃ x, x = w0.heap.size := ⟨_, rfl⟩
        have hltT : bT < hb := by rw [hhb]; exact (BT.out w0 (gr_refl _ _)).lt
        have hltU : bU < hb := by rw [hhb]; exact (BU.out w0 (gr_refl _ _)).lt
        have hwq2 : hb + 1 ≤ wQ.heap.size := by omega
        have BHQ2 : Hid (BoxC wQ hb #[.bool vk, .slice vo1 vl1 vc1, .slice vo2 vl2 vc2, .bool false, .slice none 0 0, .slice none 0 0]) := by rw [hhb]; exact BHQ.out
        have HHB := hide hhb
        rw [← hhb]
        obtain ⟨Bf, hBf0⟩ : ∃ x, x = 32 * L + 53 := ⟨_, rfl⟩
        have hBf : Bf ≤ 5000000000 := by omega
        replace PT := hide (PT.out.mono (show _ ≤ Bf by omega))
        replace PU := hide (PU.out.mono (show _ ≤ Bf by omega))
        have HT : Hid (Tab10 w0) := HTB.out.keep0 GD4.out
        have hfit := HFB
        have hB := hBl
        have HST : Hid (BncR w0 hb W f g B k (.slice (some ⟨wQ.heap.size, 0, none⟩) 1 1) (.int .i64 0) (wQ.alloc (Obj.cells #[.string ⟨(qtext W).toArray⟩] 25))) := BncR.start (ownT_one hwq2) (gr_alloc GQ.out _) (BHQ2.out.keep0 (gr_alloc (gr_refl _ _) _)) ((PV.out.keep0 (gr_alloc GQ.out _)).tight HF0.out) (fq_zero' _ _)
        clear hhb hBf0 HFB BHQ BHQ2 BV PV BH HF0 GQ hwq hwq2 hwh GSZ GSY GSX hl1 hl2 hl3 hl4 hl5 hl6
        go_wp2
        go_loopw [20, 79] (fun ov iv wr => Hid (BncR w0 hb W f g B k ov iv wr)) (fun _ iv _ => k - (intOf iv).toNat)
        case atStart => exact HST.out
        case round =>
          clear HST
          obtain ⟨i, hi, rfl, ho, hg, e0, e1, e2, e3, e4, e5, hbx, q0, q1⟩ := hrel.out
          obtain ⟨mk, mo1, ml1, mc1, mo2, ml2, mc2, rfl, rfl, rfl⟩ := q0.flat
          obtain ⟨nk, no1, nl1, nc1, no2, nl2, nc2, rfl, rfl, rfl⟩ := q1.flat
          obtain ⟨ao, cap, rfl⟩ := ho.1.shape
          rw [textsL_length] at ho ⊢
          have HO := hide ho
          have HG := hide hg
          have HBX := hide hbx
          have Q0 := hide q0
          have Q1 := hide q1
          clear hrel ho hg hbx q0 q1
          by_cases hlt : i < k
          · by_cases he : i % 2 = 0
            · have ea : ((i : Int) + 1).tmod 2 = 1 := by rw [Int.tmod_eq_emod_of_nonneg (by omega)]; omega
              rw [if_pos he] at Q0 Q1
              have GT := hide (BT.out wr HG.out)
              have GU := hide (BU.out wr HG.out)
              go_upto_region 16 with fail
              clear ea
              refine wp_region_noPanic ?_
              refine wp_region_any (by kernel_rfl) ?_
              change wpAny _ _ _ _ _ _ _ (World.drew _)
              refine late_any (S := fun w' => w'.cell? ⟨hb, 0, none⟩ = some (.bool mk) ∧ w'.cell? ⟨hb, 1, none⟩ = some (.slice mo1 ml1 mc1) ∧ w'.cell? ⟨hb, 2, none⟩ = some (.slice mo2 ml2 mc2) ∧ w'.cell? ⟨hb, 3, none⟩ = some (.bool nk) ∧ w'.cell? ⟨hb, 4, none⟩ = some (.slice no1 nl1 nc1) ∧ w'.cell? ⟨hb, 5, none⟩ = some (.slice no2 nl2 nc2) ∧ w'.cell? ⟨bT, 0, none⟩ = some (.bool tk) ∧ w'.cell? ⟨bT, 1, none⟩ = some (.slice to1 tl1 tc1) ∧ w'.cell? ⟨bT, 2, none⟩ = some (.slice to2 tl2 tc2) ∧ w'.cell? ⟨bU, 0, none⟩ = some (.bool qk) ∧ w'.cell? ⟨bU, 1, none⟩ = some (.slice qo1 ql1 qc1) ∧ w'.cell? ⟨bU, 2, none⟩ = some (.slice qo2 ql2 qc2)) (T := fun i => i == 9) _ _ _ _ ?_
              have GG : wr.grownBy wr.drew none := gr_d1
              obtain ⟨x0, x1, x2, x3, x4, x5, xf0, xf1, xf2, xf3, xf4, xf5⟩ := (HBX.out.keep0 GG).c6
              obtain ⟨y0, y1, y2, yf0, yf1, yf2⟩ := (GT.out.keep0 GG).c3
              obtain ⟨z0, z1, z2, zf0, zf1, zf2⟩ := (GU.out.keep0 GG).c3
              have hHeld : (fun w' => w'.cell? ⟨hb, 0, none⟩ = some (.bool mk) ∧ w'.cell? ⟨hb, 1, none⟩ = some (.slice mo1 ml1 mc1) ∧ w'.cell? ⟨hb, 2, none⟩ = some (.slice mo2 ml2 mc2) ∧ w'.cell? ⟨hb, 3, none⟩ = some (.bool nk) ∧ w'.cell? ⟨hb, 4, none⟩ = some (.slice no1 nl1 nc1) ∧ w'.cell? ⟨hb, 5, none⟩ = some (.slice no2 nl2 nc2) ∧ w'.cell? ⟨bT, 0, none⟩ = some (.bool tk) ∧ w'.cell? ⟨bT, 1, none⟩ = some (.slice to1 tl1 tc1) ∧ w'.cell? ⟨bT, 2, none⟩ = some (.slice to2 tl2 tc2) ∧ w'.cell? ⟨bU, 0, none⟩ = some (.bool qk) ∧ w'.cell? ⟨bU, 1, none⟩ = some (.slice qo1 ql1 qc1) ∧ w'.cell? ⟨bU, 2, none⟩ = some (.slice qo2 ql2 qc2)) wr.drew := by (dsimp only; go_keep)
              refine late_take (fun k => k == 9) (i := 0) (v := (Value.int .i64 1)) rfl (by kernel_rfl) (by kernel_rfl) (by kernel_rfl) (by kernel_rfl) (by kernel_rfl) (fun _ _ _ h => h) (Or.inl ⟨by rfl, ?zy0e⟩) hHeld ?zr0e
              case zy0e => (intro w hSw; (try dsimp only at hSw); go_simp)
              case zr0e =>
                (try simp only [Act.put, List.setIfInBounds_toArray, List.set_cons_zero, List.set_cons_succ])
                refine late_take (fun k => k == 9) (i := 1) (v := (Value.int .i64 1)) rfl (by kernel_rfl) (by kernel_rfl) (by kernel_rfl) (by kernel_rfl) (by kernel_rfl) (fun _ _ _ h => h) (Or.inl ⟨by rfl, ?zy1e⟩) hHeld ?zr1e
                case zy1e => (intro w hSw; (try dsimp only at hSw); go_simp)
                case zr1e =>
                  (try simp only [Act.put, List.setIfInBounds_toArray, List.set_cons_zero, List.set_cons_succ])
                  refine late_take (fun k => k == 9) (i := 2) (v := (Value.pointer (some ⟨hb, 3, none⟩))) rfl (by kernel_rfl) (by kernel_rfl) (by kernel_rfl) (by kernel_rfl) (by kernel_rfl) (fun _ _ _ h => h) (Or.inl ⟨by rfl, ?zy2e⟩) hHeld ?zr2e
                  case zy2e => (intro w hSw; (try dsimp only at hSw); go_simp)
                  case zr2e =>
                    (try simp only [Act.put, List.setIfInBounds_toArray, List.set_cons_zero, List.set_cons_succ])
                    refine late_take (fun k => k == 9) (i := 3) (v := (Value.agg #[.bool nk, .slice no1 nl1 nc1, .slice no2 nl2 nc2])) rfl (by kernel_rfl) (by kernel_rfl) (by kernel_rfl) (by kernel_rfl) (by kernel_rfl) (fun _ _ _ h => h) (Or.inl ⟨by rfl, ?zy3e⟩) hHeld ?zr3e
                    case zy3e => (intro w hSw; (try dsimp only at hSw); go_simp)
                    case zr3e =>
                      (try simp only [Act.put, List.setIfInBounds_toArray, List.set_cons_zero, List.set_cons_succ])
                      refine late_take (fun k => k == 9) (i := 4) (v := (Value.agg #[.bool qk, .slice qo1 ql1 qc1, .slice qo2 ql2 qc2])) rfl (by kernel_rfl) (by kernel_rfl) (by kernel_rfl) (by kernel_rfl) (by kernel_rfl) (fun _ _ _ h => h) (Or.inl ⟨by rfl, ?zy4e⟩) hHeld ?zr4e
                      case zy4e => (intro w hSw; (try dsimp only at hSw); go_simp)
                      case zr4e =>
                        (try simp only [Act.put, List.setIfInBounds_toArray, List.set_cons_zero, List.set_cons_succ])
                        refine late_take (fun k => k == 9) (i := 6) (v := (Value.agg #[.bool tk, .slice to1 tl1 tc1, .slice to2 tl2 tc2])) rfl (by kernel_rfl) (by kernel_rfl) (by kernel_rfl) (by kernel_rfl) (by kernel_rfl) (fun _ _ _ h => h) (Or.inl ⟨by rfl, ?zy6e⟩) hHeld ?zr6e
                        case zy6e => (intro w hSw; (try dsimp only at hSw); go_simp)
                        case zr6e =>
                          (try simp only [Act.put, List.setIfInBounds_toArray, List.set_cons_zero, List.set_cons_succ])
                          refine late_one (i := 5) (by kernel_rfl) rfl (fun K hK => ?_)
                          go_simp
                          refine (qTimes_at _ _ (boP W f g i) g B Bf _ (Q1.out.keep0 GG) ((PU.out.keep0 HG.out).keep0 GG) (by omega)).mono ?_
                          rintro e wa ⟨va, rfl, pa, ga⟩
                          obtain ⟨ak, ao1, al1, ac1, ao2, al2, ac2, rfl⟩ := pa.letters
                          have GG : wr.grownBy wa none := gr_none GG ga
                          obtain ⟨a_x0, a_x1, a_x2, a_x3, a_x4, a_x5, a_xf0, a_xf1, a_xf2, a_xf3, a_xf4, a_xf5⟩ := (HBX.out.keep0 GG).c6
                          obtain ⟨a_y0, a_y1, a_y2, a_yf0, a_yf1, a_yf2⟩ := (GT.out.keep0 GG).c3
                          obtain ⟨a_z0, a_z1, a_z2, a_zf0, a_zf1, a_zf2⟩ := (GU.out.keep0 GG).c3
                          go_wp2_with fail
                          refine hK.out _ _ ?zs5e ?zt5e
                          case zs5e => (intro _; (try dsimp only); go_keep)
                          case zt5e =>
                            (try simp only [Act.put, List.setIfInBounds_toArray, List.set_cons_zero, List.set_cons_succ])
                            refine late_one (i := 7) (by kernel_rfl) rfl (fun K hK => ?_)
                            go_simp
                            refine (qPlus_at _ _ (boP W f g i * g) f (B + Bf + 1) Bf _ pa ((PT.out.keep0 HG.out).keep0 GG) (by omega)).mono ?_
                            rintro e wd ⟨vd, rfl, pd, gd⟩
                            obtain ⟨dk, do1, dl1, dc1, do2, dl2, dc2, rfl⟩ := pd.letters
                            have GG : wr.grownBy wd none := gr_none GG gd
                            obtain ⟨d_x0, d_x1, d_x2, d_x3, d_x4, d_x5, d_xf0, d_xf1, d_xf2, d_xf3, d_xf4, d_xf5⟩ := (HBX.out.keep0 GG).c6
                            obtain ⟨d_y0, d_y1, d_y2, d_yf0, d_yf1, d_yf2⟩ := (GT.out.keep0 GG).c3
                            obtain ⟨d_z0, d_z1, d_z2, d_zf0, d_zf1, d_zf2⟩ := (GU.out.keep0 GG).c3
                            go_wp2_with fail
                            refine hK.out _ _ ?zs7e ?zt7e
                            case zs7e => (intro _; (try dsimp only); go_keep)
                            case zt7e =>
                              (try simp only [Act.put, List.setIfInBounds_toArray, List.set_cons_zero, List.set_cons_succ])
                              clear hHeld
                              have hHeld : (fun w' => w'.cell? ⟨hb, 0, none⟩ = some (.bool mk) ∧ w'.cell? ⟨hb, 1, none⟩ = some (.slice mo1 ml1 mc1) ∧ w'.cell? ⟨hb, 2, none⟩ = some (.slice mo2 ml2 mc2) ∧ w'.cell? ⟨hb, 3, none⟩ = some (.bool nk) ∧ w'.cell? ⟨hb, 4, none⟩ = some (.slice no1 nl1 nc1) ∧ w'.cell? ⟨hb, 5, none⟩ = some (.slice no2 nl2 nc2) ∧ w'.cell? ⟨bT, 0, none⟩ = some (.bool tk) ∧ w'.cell? ⟨bT, 1, none⟩ = some (.slice to1 tl1 tc1) ∧ w'.cell? ⟨bT, 2, none⟩ = some (.slice to2 tl2 tc2) ∧ w'.cell? ⟨bU, 0, none⟩ = some (.bool qk) ∧ w'.cell? ⟨bU, 1, none⟩ = some (.slice qo1 ql1 qc1) ∧ w'.cell? ⟨bU, 2, none⟩ = some (.slice qo2 ql2 qc2)) wd := by (dsimp only; go_keep)
                              refine late_take (fun k => k == 9) (i := 8) (v := (Value.pointer (some ⟨hb, 3, none⟩))) rfl (by kernel_rfl) (by kernel_rfl) (by kernel_rfl) (by kernel_rfl) (by kernel_rfl) (fun _ _ _ h => h) (Or.inl ⟨by rfl, ?zy8e⟩) hHeld ?zr8e
                              case zy8e => (intro w hSw; (try dsimp only at hSw); go_simp)
                              case zr8e =>
                                (try simp only [Act.put, List.setIfInBounds_toArray, List.set_cons_zero, List.set_cons_succ])
                                have pd2 : FQ wd (Value.agg #[.bool dk, .slice do1 dl1 dc1, .slice do2 dl2 dc2]) (bo W f g (i + 1)) B := by rw [← bo_succ] at pd; exact pd.tight (hfit.out (i + 1) (by omega))
                                have PD := hide pd2
                                have GD := hide GG
                                have BXd := hide (HBX.out.keep0 GG)
                                clear pd pa pd2 GG hHeld
                                refine late_rest _ _ _ _ ?zle ?zwe
                                case zle => (intro j hj hju; match j, hj, hju with | 9, _, _ => rfl)
                                case zwe =>
                                  refine wpAny_ready (rs := [9]) (by kernel_rfl) (by simp) ?_
                                  refine AllReady.cons rfl (fun K hK => ?_) AllReady.nil
                                  obtain ⟨W7, hW7⟩ : ∃ x, x = (((wd.setCell ⟨hb, 3, none⟩ (.bool dk)).setCell ⟨hb, 4, none⟩ (.slice do1 dl1 dc1)).setCell ⟨hb, 5, none⟩ (.slice do2 dl2 dc2)) := ⟨_, rfl⟩
                                  go_simp
                                  rw [← hW7]
                                  refine hK _ _ ?_
                                  (try simp only [Act.put, List.setIfInBounds_toArray, List.set_cons_zero, List.set_cons_succ])
                                  refine wpAny_done (by kernel_rfl) ?_ _
                                  refine NoPanic.normal ?_
                                  have b7 : BoxC W7 hb #[.bool mk, .slice mo1 ml1 mc1, .slice mo2 ml2 mc2, .bool dk, .slice do1 dl1 dc1, .slice do2 dl2 dc2] := by rw [hW7]; exact ((BXd.out.set 3 _).set 4 _).set 5 _
                                  have k7 : WKept wd W7 := by rw [hW7]; exact ((BXd.out.keptI 3 (fun x => (noWd6 _ _ _ _ _ _ _ _ _ _ _ _ _ _).at 3 x) _).trans ((BXd.out.set 3 _).keptI 4 (fun x => (noWd6 _ _ _ _ _ _ _ _ _ _ _ _ _ _).at 4 x) _)).trans (((BXd.out.set 3 _).set 4 _).keptI 5 (fun x => (noWd6 _ _ _ _ _ _ _ _ _ _ _ _ _ _).at 5 x) _)
                                  have hle : w0.heap.size ≤ hb := Nat.le_of_eq HHB.out.symm
                                  have g7 : w0.grownBy W7 none := by rw [hW7]; exact gr_set (gr_set (gr_set (gr_none HG.out GD.out) _ _ (by simpa using hle)) _ _ (by simpa using hle)) _ _ (by simpa using hle)
                                  have gb : wd.grownBy W7 (some hb) := by rw [hW7]; exact gr_hit3
                                  have o7 : OwnT W7 (hb + 1) (.slice ao (i + 1) cap) (textsL (bo W f g) (i + 1)) := (HO.out.keep0 GD.out).keepB gb
                                  have B7 := hide b7
                                  have G7 := hide g7
                                  have O7 := hide o7
                                  have K7 := hide k7
                                  have PD7 := hide (PD.out.kept k7)
                                  have PK7 := hide ((Q0.out.keep0 GD.out).kept k7)
                                  obtain ⟨s0, s1, s2, s3, s4, s5, sf0, sf1, sf2, sf3, sf4, sf5⟩ := b7.c6
                                  clear hW7 b7 k7 g7 gb o7 hK
                                  go_wp2_with fail
                                  refine (fQ_at _ (bo W f g (i + 1)) B _ PD7.out (by omega) (HT.out.keep0 G7.out)).mono ?_
                                  rintro e w8 ⟨rfl, g8⟩
                                  have G8 := hide g8
                                  have hsz : hb + 1 ≤ w8.heap.size := Nat.le_trans B7.out.lt g8.size
                                  have HTX := hide (textsL_succ (bo W f g) (i + 1))
                                  clear g8 s0 sf0 s1 sf1 s2 sf2 s3 sf3 s4 sf4 s5 sf5
                                  go_wp2_with (at_builtin; refine wpList_append_t _ rfl _ _ 22 rfl (hb + 1) Tryz.underlying22 Tryz.infoQ _ (textsL (bo W f g) (i + 1)) rfl (O7.out.keep0 (gr_alloc G8.out _)) w8.heap.size ⟨(qtext (bo W f g (i + 1))).toArray⟩ rfl (by go_simp) (by rw [textsL_length]; omega) (by simp; omega) ?_)
                                  intro ao2 cap2 w9 o9 g9 k9
                                  rw [textsL_length] at o9
                                  have O9 : Hid (OwnT w9 (hb + 1) (.slice ao2 (i + 1 + 1) cap2) (textsL (bo W f g) (i + 1 + 1))) := by rw [HTX.out]; exact o9
                                  have hnob : ∀ q, (Value.slice ao (i + 1) cap).ownBlock = some q → hb + 1 ≤ q := fun q e => (O7.out.1.fresh q e).1
                                  have G9 : Hid (w0.grownBy w9 none) := gr_trans (r := none) (gr_none G7.out (gr_alloc G8.out _)) g9 (fun _ _ e => e) (fun q hq e => by have := hnob q e.symm; omega)
                                  have B9 := hide ((B7.out.keep0 (gr_alloc G8.out _)).keepO g9 (fun e => by have := hnob hb e.symm; omega))
                                  have PD9 := hide ((PD7.out.keep0 (gr_alloc G8.out _)).kept k9)
                                  have PK9 := hide ((PK7.out.keep0 (gr_alloc G8.out _)).kept k9)
                                  clear o9 g9 k9 hnob
                                  rw [textsL_length]
                                  go_wp2
                                  go_roundw
                                  case rel =>
                                    refine ⟨i + 1, by omega, by go_num, O9.out, G9.out, _, _, _, _, _, _, B9.out, ?_, ?_⟩
                                    · rw [if_neg (show ¬ (i + 1) % 2 = 0 by omega)]; exact PK9.out
                                    · rw [if_neg (show ¬ (i + 1) % 2 = 0 by omega)]; exact PD9.out
                                  case measure => simp [intOf]; omega
            · have ea : ((i : Int) + 1).tmod 2 = 0 := by rw [Int.tmod_eq_emod_of_nonneg (by omega)]; omega
              rw [if_neg he] at Q0 Q1
              have GT := hide (BT.out wr HG.out)
              have GU := hide (BU.out wr HG.out)
              go_upto_region 16 with fail
              clear ea
              refine wp_region_noPanic ?_
              refine wp_region_any (by kernel_rfl) ?_
              change wpAny _ _ _ _ _ _ _ (World.drew _)
              refine late_any (S := fun w' => w'.cell? ⟨hb, 0, none⟩ = some (.bool mk) ∧ w'.cell? ⟨hb, 1, none⟩ = some (.slice mo1 ml1 mc1) ∧ w'.cell? ⟨hb, 2, none⟩ = some (.slice mo2 ml2 mc2) ∧ w'.cell? ⟨hb, 3, none⟩ = some (.bool nk) ∧ w'.cell? ⟨hb, 4, none⟩ = some (.slice no1 nl1 nc1) ∧ w'.cell? ⟨hb, 5, none⟩ = some (.slice no2 nl2 nc2) ∧ w'.cell? ⟨bT, 0, none⟩ = some (.bool tk) ∧ w'.cell? ⟨bT, 1, none⟩ = some (.slice to1 tl1 tc1) ∧ w'.cell? ⟨bT, 2, none⟩ = some (.slice to2 tl2 tc2) ∧ w'.cell? ⟨bU, 0, none⟩ = some (.bool qk) ∧ w'.cell? ⟨bU, 1, none⟩ = some (.slice qo1 ql1 qc1) ∧ w'.cell? ⟨bU, 2, none⟩ = some (.slice qo2 ql2 qc2)) (T := fun i => i == 9) _ _ _ _ ?_
              have GG : wr.grownBy wr.drew none := gr_d1
              obtain ⟨x0, x1, x2, x3, x4, x5, xf0, xf1, xf2, xf3, xf4, xf5⟩ := (HBX.out.keep0 GG).c6
              obtain ⟨y0, y1, y2, yf0, yf1, yf2⟩ := (GT.out.keep0 GG).c3
              obtain ⟨z0, z1, z2, zf0, zf1, zf2⟩ := (GU.out.keep0 GG).c3
              have hHeld : (fun w' => w'.cell? ⟨hb, 0, none⟩ = some (.bool mk) ∧ w'.cell? ⟨hb, 1, none⟩ = some (.slice mo1 ml1 mc1) ∧ w'.cell? ⟨hb, 2, none⟩ = some (.slice mo2 ml2 mc2) ∧ w'.cell? ⟨hb, 3, none⟩ = some (.bool nk) ∧ w'.cell? ⟨hb, 4, none⟩ = some (.slice no1 nl1 nc1) ∧ w'.cell? ⟨hb, 5, none⟩ = some (.slice no2 nl2 nc2) ∧ w'.cell? ⟨bT, 0, none⟩ = some (.bool tk) ∧ w'.cell? ⟨bT, 1, none⟩ = some (.slice to1 tl1 tc1) ∧ w'.cell? ⟨bT, 2, none⟩ = some (.slice to2 tl2 tc2) ∧ w'.cell? ⟨bU, 0, none⟩ = some (.bool qk) ∧ w'.cell? ⟨bU, 1, none⟩ = some (.slice qo1 ql1 qc1) ∧ w'.cell? ⟨bU, 2, none⟩ = some (.slice qo2 ql2 qc2)) wr.drew := by (dsimp only; go_keep)
              refine late_take (fun k => k == 9) (i := 0) (v := (Value.int .i64 0)) rfl (by kernel_rfl) (by kernel_rfl) (by kernel_rfl) (by kernel_rfl) (by kernel_rfl) (fun _ _ _ h => h) (Or.inl ⟨by rfl, ?zy0o⟩) hHeld ?zr0o
              case zy0o => (intro w hSw; (try dsimp only at hSw); go_simp)
              case zr0o =>
                (try simp only [Act.put, List.setIfInBounds_toArray, List.set_cons_zero, List.set_cons_succ])
                refine late_take (fun k => k == 9) (i := 1) (v := (Value.int .i64 0)) rfl (by kernel_rfl) (by kernel_rfl) (by kernel_rfl) (by kernel_rfl) (by kernel_rfl) (fun _ _ _ h => h) (Or.inl ⟨by rfl, ?zy1o⟩) hHeld ?zr1o
                case zy1o => (intro w hSw; (try dsimp only at hSw); go_simp)
                case zr1o =>
                  (try simp only [Act.put, List.setIfInBounds_toArray, List.set_cons_zero, List.set_cons_succ])
                  refine late_take (fun k => k == 9) (i := 2) (v := (Value.pointer (some ⟨hb, 0, none⟩))) rfl (by kernel_rfl) (by kernel_rfl) (by kernel_rfl) (by kernel_rfl) (by kernel_rfl) (fun _ _ _ h => h) (Or.inl ⟨by rfl, ?zy2o⟩) hHeld ?zr2o
                  case zy2o => (intro w hSw; (try dsimp only at hSw); go_simp)
                  case zr2o =>
                    (try simp only [Act.put, List.setIfInBounds_toArray, List.set_cons_zero, List.set_cons_succ])
                    refine late_take (fun k => k == 9) (i := 3) (v := (Value.agg #[.bool mk, .slice mo1 ml1 mc1, .slice mo2 ml2 mc2])) rfl (by kernel_rfl) (by kernel_rfl) (by kernel_rfl) (by kernel_rfl) (by kernel_rfl) (fun _ _ _ h => h) (Or.inl ⟨by rfl, ?zy3o⟩) hHeld ?zr3o
                    case zy3o => (intro w hSw; (try dsimp only at hSw); go_simp)
                    case zr3o =>
                      (try simp only [Act.put, List.setIfInBounds_toArray, List.set_cons_zero, List.set_cons_succ])
                      refine late_take (fun k => k == 9) (i := 4) (v := (Value.agg #[.bool qk, .slice qo1 ql1 qc1, .slice qo2 ql2 qc2])) rfl (by kernel_rfl) (by kernel_rfl) (by kernel_rfl) (by kernel_rfl) (by kernel_rfl) (fun _ _ _ h => h) (Or.inl ⟨by rfl, ?zy4o⟩) hHeld ?zr4o
                      case zy4o => (intro w hSw; (try dsimp only at hSw); go_simp)
                      case zr4o =>
                        (try simp only [Act.put, List.setIfInBounds_toArray, List.set_cons_zero, List.set_cons_succ])
                        refine late_take (fun k => k == 9) (i := 6) (v := (Value.agg #[.bool tk, .slice to1 tl1 tc1, .slice to2 tl2 tc2])) rfl (by kernel_rfl) (by kernel_rfl) (by kernel_rfl) (by kernel_rfl) (by kernel_rfl) (fun _ _ _ h => h) (Or.inl ⟨by rfl, ?zy6o⟩) hHeld ?zr6o
                        case zy6o => (intro w hSw; (try dsimp only at hSw); go_simp)
                        case zr6o =>
                          (try simp only [Act.put, List.setIfInBounds_toArray, List.set_cons_zero, List.set_cons_succ])
                          refine late_one (i := 5) (by kernel_rfl) rfl (fun K hK => ?_)
                          go_simp
                          refine (qTimes_at _ _ (boP W f g i) g B Bf _ (Q0.out.keep0 GG) ((PU.out.keep0 HG.out).keep0 GG) (by omega)).mono ?_
                          rintro e wa ⟨va, rfl, pa, ga⟩
                          obtain ⟨ak, ao1, al1, ac1, ao2, al2, ac2, rfl⟩ := pa.letters
                          have GG : wr.grownBy wa none := gr_none GG ga
                          obtain ⟨a_x0, a_x1, a_x2, a_x3, a_x4, a_x5, a_xf0, a_xf1, a_xf2, a_xf3, a_xf4, a_xf5⟩ := (HBX.out.keep0 GG).c6
                          obtain ⟨a_y0, a_y1, a_y2, a_yf0, a_yf1, a_yf2⟩ := (GT.out.keep0 GG).c3
                          obtain ⟨a_z0, a_z1, a_z2, a_zf0, a_zf1, a_zf2⟩ := (GU.out.keep0 GG).c3
                          go_wp2_with fail
                          refine hK.out _ _ ?zs5o ?zt5o
                          case zs5o => (intro _; (try dsimp only); go_keep)
                          case zt5o =>
                            (try simp only [Act.put, List.setIfInBounds_toArray, List.set_cons_zero, List.set_cons_succ])
                            refine late_one (i := 7) (by kernel_rfl) rfl (fun K hK => ?_)
                            go_simp
                            refine (qPlus_at _ _ (boP W f g i * g) f (B + Bf + 1) Bf _ pa ((PT.out.keep0 HG.out).keep0 GG) (by omega)).mono ?_
                            rintro e wd ⟨vd, rfl, pd, gd⟩
                            obtain ⟨dk, do1, dl1, dc1, do2, dl2, dc2, rfl⟩ := pd.letters
                            have GG : wr.grownBy wd none := gr_none GG gd
                            obtain ⟨d_x0, d_x1, d_x2, d_x3, d_x4, d_x5, d_xf0, d_xf1, d_xf2, d_xf3, d_xf4, d_xf5⟩ := (HBX.out.keep0 GG).c6
                            obtain ⟨d_y0, d_y1, d_y2, d_yf0, d_yf1, d_yf2⟩ := (GT.out.keep0 GG).c3
                            obtain ⟨d_z0, d_z1, d_z2, d_zf0, d_zf1, d_zf2⟩ := (GU.out.keep0 GG).c3
                            go_wp2_with fail
                            refine hK.out _ _ ?zs7o ?zt7o
                            case zs7o => (intro _; (try dsimp only); go_keep)
                            case zt7o =>
                              (try simp only [Act.put, List.setIfInBounds_toArray, List.set_cons_zero, List.set_cons_succ])
                              clear hHeld
                              have hHeld : (fun w' => w'.cell? ⟨hb, 0, none⟩ = some (.bool mk) ∧ w'.cell? ⟨hb, 1, none⟩ = some (.slice mo1 ml1 mc1) ∧ w'.cell? ⟨hb, 2, none⟩ = some (.slice mo2 ml2 mc2) ∧ w'.cell? ⟨hb, 3, none⟩ = some (.bool nk) ∧ w'.cell? ⟨hb, 4, none⟩ = some (.slice no1 nl1 nc1) ∧ w'.cell? ⟨hb, 5, none⟩ = some (.slice no2 nl2 nc2) ∧ w'.cell? ⟨bT, 0, none⟩ = some (.bool tk) ∧ w'.cell? ⟨bT, 1, none⟩ = some (.slice to1 tl1 tc1) ∧ w'.cell? ⟨bT, 2, none⟩ = some (.slice to2 tl2 tc2) ∧ w'.cell? ⟨bU, 0, none⟩ = some (.bool qk) ∧ w'.cell? ⟨bU, 1, none⟩ = some (.slice qo1 ql1 qc1) ∧ w'.cell? ⟨bU, 2, none⟩ = some (.slice qo2 ql2 qc2)) wd := by (dsimp only; go_keep)
                              refine late_take (fun k => k == 9) (i := 8) (v := (Value.pointer (some ⟨hb, 0, none⟩))) rfl (by kernel_rfl) (by kernel_rfl) (by kernel_rfl) (by kernel_rfl) (by kernel_rfl) (fun _ _ _ h => h) (Or.inl ⟨by rfl, ?zy8o⟩) hHeld ?zr8o
                              case zy8o => (intro w hSw; (try dsimp only at hSw); go_simp)
                              case zr8o =>
                                (try simp only [Act.put, List.setIfInBounds_toArray, List.set_cons_zero, List.set_cons_succ])
                                have pd2 : FQ wd (Value.agg #[.bool dk, .slice do1 dl1 dc1, .slice do2 dl2 dc2]) (bo W f g (i + 1)) B := by rw [← bo_succ] at pd; exact pd.tight (hfit.out (i + 1) (by omega))
                                have PD := hide pd2
                                have GD := hide GG
                                have BXd := hide (HBX.out.keep0 GG)
                                clear pd pa pd2 GG hHeld
                                refine late_rest _ _ _ _ ?zlo ?zwo
                                case zlo => (intro j hj hju; match j, hj, hju with | 9, _, _ => rfl)
                                case zwo =>
                                  refine wpAny_ready (rs := [9]) (by kernel_rfl) (by simp) ?_
                                  refine AllReady.cons rfl (fun K hK => ?_) AllReady.nil
                                  obtain ⟨W7, hW7⟩ : ∃ x, x = (((wd.setCell ⟨hb, 0, none⟩ (.bool dk)).setCell ⟨hb, 1, none⟩ (.slice do1 dl1 dc1)).setCell ⟨hb, 2, none⟩ (.slice do2 dl2 dc2)) := ⟨_, rfl⟩
                                  go_simp
                                  rw [← hW7]
                                  refine hK _ _ ?_
                                  (try simp only [Act.put, List.setIfInBounds_toArray, List.set_cons_zero, List.set_cons_succ])
                                  refine wpAny_done (by kernel_rfl) ?_ _
                                  refine NoPanic.normal ?_
                                  have b7 : BoxC W7 hb #[.bool dk, .slice do1 dl1 dc1, .slice do2 dl2 dc2, .bool nk, .slice no1 nl1 nc1, .slice no2 nl2 nc2] := by rw [hW7]; exact ((BXd.out.set 0 _).set 1 _).set 2 _
                                  have k7 : WKept wd W7 := by rw [hW7]; exact ((BXd.out.keptI 0 (fun x => (noWd6 _ _ _ _ _ _ _ _ _ _ _ _ _ _).at 0 x) _).trans ((BXd.out.set 0 _).keptI 1 (fun x => (noWd6 _ _ _ _ _ _ _ _ _ _ _ _ _ _).at 1 x) _)).trans (((BXd.out.set 0 _).set 1 _).keptI 2 (fun x => (noWd6 _ _ _ _ _ _ _ _ _ _ _ _ _ _).at 2 x) _)
                                  have hle : w0.heap.size ≤ hb := Nat.le_of_eq HHB.out.symm
                                  have g7 : w0.grownBy W7 none := by rw [hW7]; exact gr_set (gr_set (gr_set (gr_none HG.out GD.out) _ _ (by simpa using hle)) _ _ (by simpa using hle)) _ _ (by simpa using hle)
                                  have gb : wd.grownBy W7 (some hb) := by rw [hW7]; exact gr_hit3
                                  have o7 : OwnT W7 (hb + 1) (.slice ao (i + 1) cap) (textsL (bo W f g) (i + 1)) := (HO.out.keep0 GD.out).keepB gb
                                  have B7 := hide b7
                                  have G7 := hide g7
                                  have O7 := hide o7
                                  have K7 := hide k7
                                  have PD7 := hide (PD.out.kept k7)
                                  have PK7 := hide ((Q1.out.keep0 GD.out).kept k7)
                                  obtain ⟨s0, s1, s2, s3, s4, s5, sf0, sf1, sf2, sf3, sf4, sf5⟩ := b7.c6
                                  clear hW7 b7 k7 g7 gb o7 hK
                                  go_wp2_with fail
                                  refine (fQ_at _ (bo W f g (i + 1)) B _ PD7.out (by omega) (HT.out.keep0 G7.out)).mono ?_
                                  rintro e w8 ⟨rfl, g8⟩
                                  have G8 := hide g8
                                  have hsz : hb + 1 ≤ w8.heap.size := Nat.le_trans B7.out.lt g8.size
                                  have HTX := hide (textsL_succ (bo W f g) (i + 1))
                                  clear g8 s0 sf0 s1 sf1 s2 sf2 s3 sf3 s4 sf4 s5 sf5
                                  go_wp2_with (at_builtin; refine wpList_append_t _ rfl _ _ 22 rfl (hb + 1) Tryz.underlying22 Tryz.infoQ _ (textsL (bo W f g) (i + 1)) rfl (O7.out.keep0 (gr_alloc G8.out _)) w8.heap.size ⟨(qtext (bo W f g (i + 1))).toArray⟩ rfl (by go_simp) (by rw [textsL_length]; omega) (by simp; omega) ?_)
                                  intro ao2 cap2 w9 o9 g9 k9
                                  rw [textsL_length] at o9
                                  have O9 : Hid (OwnT w9 (hb + 1) (.slice ao2 (i + 1 + 1) cap2) (textsL (bo W f g) (i + 1 + 1))) := by rw [HTX.out]; exact o9
                                  have hnob : ∀ q, (Value.slice ao (i + 1) cap).ownBlock = some q → hb + 1 ≤ q := fun q e => (O7.out.1.fresh q e).1
                                  have G9 : Hid (w0.grownBy w9 none) := gr_trans (r := none) (gr_none G7.out (gr_alloc G8.out _)) g9 (fun _ _ e => e) (fun q hq e => by have := hnob q e.symm; omega)
                                  have B9 := hide ((B7.out.keep0 (gr_alloc G8.out _)).keepO g9 (fun e => by have := hnob hb e.symm; omega))
                                  have PD9 := hide ((PD7.out.keep0 (gr_alloc G8.out _)).kept k9)
                                  have PK9 := hide ((PK7.out.keep0 (gr_alloc G8.out _)).kept k9)
                                  clear o9 g9 k9 hnob
                                  rw [textsL_length]
                                  go_wp2
                                  go_roundw
                                  case rel =>
                                    refine ⟨i + 1, by omega, by go_num, O9.out, G9.out, _, _, _, _, _, _, B9.out, ?_, ?_⟩
                                    · rw [if_pos (show (i + 1) % 2 = 0 by omega)]; exact PD9.out
                                    · rw [if_pos (show (i + 1) % 2 = 0 by omega)]; exact PK9.out
                                  case measure => simp [intOf]; omega
          · have hik : i = k := by omega
            subst hik
            have GR := hide (gr_none GD4.out HG.out)
            have OW := hide HO.out.1.row
            clear HO HG
            go_wp2
            refine bodyPost_ret (v := .tuple #[.slice ao (i + 1) cap, .int .i64 0]) (by first | (simp [results, Tryz.results33, go_sem]; done) | (simp [results, Tryz.results33, go_sem]; rfl)) rfl ?_
            exact ⟨_, _, rfl, OW.out, GR.out⟩
end Go.Proofs.YtdpagdlmpajjkafGreatDoor
