/- voltaiclaw: LineBounds. -/
import Derived.Test.YtdpagdlmpajjkafGreatDoorXVd
import Derived.Test.YtdpagdlmpajjkafGreatDoorXVCx
import Derived.Test.YtdpagdlmpajjkafGreatDoorXVf
namespace Go.Proofs.YtdpagdlmpajjkafGreatDoor
open Go.RowKit
set_option linter.unusedVariables false
set_option linter.unusedSimpArgs false
set_option maxHeartbeats 32000000 in
set_option maxRecDepth 10000 in
theorem lineBounds_any (s t u : ByteArray) (m : Int) (w : World) (hs : s.size ≤ 1048576) (ht : t.size ≤ 1048576) (hu : u.size ≤ 1048576) (hml : w.cell? ⟨0, 0, none⟩ = some (.int .i64 m)) (htab : Tab10 w) :
    Calls Tryz.prog 5 #[.agg #[.string s, .string t], .string u] w fun e w' => e = .returned (.bool true) ∧ w.grownBy w' none := by
  have HM := hide hml
  have HT := hide htab
  clear hml htab
  obtain ⟨p, hp⟩ : ∃ p, p = ofR s.data.toList := ⟨_, rfl⟩
  obtain ⟨q, hq⟩ : ∃ q, q = ofR t.data.toList := ⟨_, rfl⟩
  obtain ⟨l, hl⟩ : ∃ l, l = ofR u.data.toList := ⟨_, rfl⟩
  have F1 : Hid (FitW 131074 p) := text_fit hp hs
  have F2 : Hid (FitW 131074 q) := text_fit hq ht
  have F3 : Hid (FitW 131074 l) := text_fit hl hu
  have HP := hide hp
  have HQ := hide hq
  have HL := hide hl
  clear hp hq hl
  obtain ⟨W, hW⟩ : ∃ W, W = (w.alloc (Obj.cells #[.string s, .string t] 46)) := ⟨_, rfl⟩
  have GW : Hid (w.grownBy W none) := by rw [hW]; exact gr_alloc (gr_refl _ _) _
  have BX : Hid (∀ wx, W.grownBy wx none → BoxC wx (w.heap.size) #[.string s, .string t]) := by
    intro wx hg
    rw [hW] at hg
    have h0 := (boxNew' w #[.string s, .string t] 46 (w.heap.size) (by simp))
    exact (h0).keep0 hg
  obtain ⟨x0, x1, xf0, xf1⟩ := (BX.out W (gr_refl _ _)).c2
  by_cases hc : rfC p q l = 0
  · have HA := hide (rf_all p q l hc)
    have HF := hide (rf_fit F1.out F2.out F3.out hc)
    have hx : txZ (rfC p q l) (rfR p q l) (rfI p q l) = .agg #[.string ⟨(qtext (rfR p q l)).toArray⟩, .string ⟨(qtext (rfI p q l)).toArray⟩] := by unfold txZ; rw [hc, if_pos rfl]
    go_enter Tryz.func5, Tryz.ntmps5
    go_wp2_with fail
    rw [← hW]
    clear hW
    refine (echoes_at m W (gr_cell GW.out HM.out) (HT.out.keep0 GW.out)).mono ?_
    rintro e w1 ⟨rfl, g1⟩
    have G1 := hide (gr_none GW.out g1)
    have B1X : Hid (∀ wx, w1.grownBy wx none → BoxC wx (w.heap.size) #[.string s, .string t]) := fun wx g => BX.out wx (gr_none g1 g)
    clear g1 x0 x1 xf0 xf1
    obtain ⟨x0, x1, xf0, xf1⟩ := (B1X.out w1 (gr_refl _ _)).c2
    go_wp2_with fail
    refine (Reflect_at s t u p q l m 131074 w1 HP.out HQ.out HL.out (by omega) (by omega) (by omega) F1.out F2.out F3.out (by decide) (gr_cell G1.out HM.out) (HT.out.keep0 G1.out)).mono ?_
    rintro e w2 ⟨rfl, g2⟩
    rw [hx, hc]
    clear hx hc
    obtain ⟨X, hX⟩ : ∃ X, X = rfR p q l := ⟨_, rfl⟩
    obtain ⟨Y, hY⟩ : ∃ Y, Y = rfI p q l := ⟨_, rfl⟩
    rw [← hX, ← hY] at HA HF ⊢
    clear hX hY
    obtain ⟨tx, htx⟩ : ∃ b : ByteArray, b = ⟨(qtext X).toArray⟩ := ⟨_, rfl⟩
    obtain ⟨ty, hty⟩ : ∃ b : ByteArray, b = ⟨(qtext Y).toArray⟩ := ⟨_, rfl⟩
    have hsx : tx.size ≤ 42000000 := by
      have h := text_size HF.out.1 (by decide)
      rw [← htx] at h
      omega
    have hsy : ty.size ≤ 42000000 := by
      have h := text_size HF.out.2 (by decide)
      rw [← hty] at h
      omega
    have HX : Hid (X = ofR tx.data.toList) := by rw [htx]; exact text_of X
    have HY : Hid (Y = ofR ty.data.toList) := by rw [hty]; exact text_of Y
    rw [← htx, ← hty]
    clear htx hty
    have G2 := hide g2
    clear g2
    go_upto_region 6 with fail
    obtain ⟨W3, hW3⟩ : ∃ wz, wz = (w2.alloc (Obj.cells #[.string tx, .string ty] 46)) := ⟨_, rfl⟩
    have GW3 : Hid (w2.grownBy W3 none) := by rw [hW3]; exact gr_alloc (gr_refl _ _) _
    have BG : Hid (∀ wx, W3.grownBy wx none → BoxC wx w2.heap.size #[.string tx, .string ty]) := by
      intro wx g
      rw [hW3] at g
      exact (boxNew w2 #[.string tx, .string ty] 46).keep0 g
    rw [← hW3]
    clear hW3 x0 x1 xf0 xf1
    have GA := hide (gr_none G2.out GW3.out)
    have GB := hide (gr_none G1.out GA.out)
    obtain ⟨x0, x1, xf0, xf1⟩ := (B1X.out W3 GA.out).c2
    go_wp2_with fail
    refine (rOfV_at s p m 131074 W3 HP.out (by omega) F1.out (gr_cell GB.out HM.out)).mono ?_
    rintro e w4 ⟨b4, rfl, p4, g4⟩
    have P4 := hide p4
    have G4 := hide g4
    clear p4 g4 x0 x1 xf0 xf1
    go_wp2_with fail
    refine (rSignV_at b4 p 131074 w4 P4.out).mono ?_
    rintro e w5 ⟨rfl, hw5⟩
    rw [hw5]
    clear hw5
    obtain ⟨sg, hsg⟩ : ∃ z, z = p.num.sign := ⟨_, rfl⟩
    rw [← hsg]
    have HSG := hide hsg
    clear hsg
    have HQV : Hid (∀ wz : World, w4.grownBy wz none → True) := fun _ _ => trivial
    obtain ⟨k0, k1, kf0, kf1⟩ := (BG.out w4 G4.out).c2
    by_cases hp0 : 0 ≤ p
    · have hsd : decide (0 ≤ sg) = true := by
        rw [HSG.out]
        have : ¬ p.num.sign < 0 := fun e => (Rat.not_lt.2 hp0) (sign_neg.1 e)
        exact decide_eq_true (by omega)
      go_wp2_with fail
      refine (cxOf_at tx ty X Y m 2097194 w4 HX.out HY.out (by omega) (by omega) (fit_mono HF.out.1 (by decide)) (fit_mono HF.out.2 (by decide)) (gr_cell (gr_none GB.out G4.out) HM.out)).mono ?_
      rintro e w6 ⟨b1, b2, rfl, p1, p2, g6⟩
      have P1 := hide p1
      have P2 := hide p2
      have G6 := hide (gr_none G4.out g6)
      clear p1 p2 g6
      go_wp2_with fail
      refine (square_at b1 b2 X Y 2097194 w6 P1.out P2.out (by decide) (by decide)).mono ?_
      rintro e w7 ⟨b3, rfl, p7, g7⟩
      have P7 := hide p7
      have G7 := hide (gr_none G6.out g7)
      clear p7 g7
      go_wp2_with fail
      refine (rN_at 1 w7 (by decide) (by decide)).mono ?_
      rintro e wn ⟨bn, rfl, pn, gn, _⟩
      have PN := hide pn
      have GN := hide (gr_none G7.out gn)
      have P8 := hide (P7.out.keep0 gn)
      clear pn gn
      go_wp2_with fail
      refine (ratCmpX_at b3 bn (X * X + Y * Y) ((1 : Int) : Rat) (4 * 2097194 + 7) 4 wn P8.out.x PN.out.x (by decide)).mono ?_
      rintro e wo ⟨rfl, go⟩
      have GO := hide (gr_none GN.out go)
      clear go
      obtain ⟨oo, hoo⟩ : ∃ z, z = ordX (X * X + Y * Y) ((1 : Int) : Rat) := ⟨_, rfl⟩
      rw [← hoo]
      have hod : decide (0 < oo) = false := by
        rw [hoo]
        have h1 : X * X + Y * Y ≤ ((1 : Int) : Rat) := HA.out.2.1 hp0
        exact decide_eq_false (by have := ordX_le h1; omega)
      have HOO := hide hoo
      clear hoo k0 k1 kf0 kf1
      obtain ⟨k0, k1, kf0, kf1⟩ := (BG.out wo GO.out).c2
      go_wp2_with fail
      have GC := hide (gr_none GB.out GO.out)
      refine (Ends_at tx ty u X Y l m 2097194 wo HX.out HY.out HL.out (by omega) (by omega) (by omega) (fit_mono HF.out.1 (by decide)) (fit_mono HF.out.2 (by decide)) (fit_mono F3.out (by decide)) (by decide) (gr_cell GC.out HM.out) (HT.out.keep0 GC.out)).mono ?_
      rintro e w8 ⟨rfl, g8⟩
      have hx2 : txZ (enC X Y l) (enR X Y l) (enI X Y l) = .agg #[.string ⟨(qtext p).toArray⟩, .string ⟨(qtext q).toArray⟩] := by unfold txZ; rw [HA.out.2.2.1, if_pos rfl, HA.out.2.2.2.1, HA.out.2.2.2.2]
      rw [hx2, HA.out.2.2.1]
      clear hx2
      have G8 := hide (gr_none GO.out g8)
      clear g8
      go_upto_region 9 with fail
      obtain ⟨W9, hW9⟩ : ∃ wz, wz = (w8.alloc (Obj.cells #[.string ⟨(qtext p).toArray⟩, .string ⟨(qtext q).toArray⟩] 46)) := ⟨_, rfl⟩
      have GW9 : Hid (w8.grownBy W9 none) := by rw [hW9]; exact gr_alloc (gr_refl _ _) _
      have BK : Hid (∀ wx, W9.grownBy wx none → BoxC wx w8.heap.size #[.string ⟨(qtext p).toArray⟩, .string ⟨(qtext q).toArray⟩]) := by
        intro wx g
        rw [hW9] at g
        exact (boxNew w8 #[.string ⟨(qtext p).toArray⟩, .string ⟨(qtext q).toArray⟩] 46).keep0 g
      rw [← hW9]
      clear hW9
      have GD := hide (gr_none GB.out (gr_none G8.out GW9.out))
      have B9X : Hid (∀ wx, W9.grownBy wx none → BoxC wx (w.heap.size) #[.string s, .string t]) := fun wx g => B1X.out wx (gr_none (gr_none GA.out (gr_none G8.out GW9.out)) g)
      have GG : W9.grownBy W9 none := gr_refl _ _
      obtain ⟨x0, x1, xf0, xf1⟩ := (B9X.out W9 GG).c2
      obtain ⟨y0, y1, yf0, yf1⟩ := (BK.out W9 GG).c2
      go_region_held3 (fun w' => w'.cell? ⟨w.heap.size, 0, none⟩ = some (.string s) ∧ w'.cell? ⟨w.heap.size, 1, none⟩ = some (.string t) ∧ w'.cell? ⟨w8.heap.size, 0, none⟩ = some (.string ⟨(qtext p).toArray⟩) ∧ w'.cell? ⟨w8.heap.size, 1, none⟩ = some (.string ⟨(qtext q).toArray⟩)) (go_keep)
        (first | (go_at_call 24; refine (cxOf_at s t p q m 131074 _ HP.out HQ.out (by omega) (by omega) F1.out F2.out (gr_cell (gr_none GD.out (by first | exact gr_none GG (gr_d _) | exact gr_none GG gr_d1 | exact GG | exact gr_alloc GG _ | exact gr_alloc (gr_none GG gr_d1) _ | exact gr_alloc (gr_none GG (gr_d _)) _)) HM.out)).mono ?_; rintro e wa ⟨b1, b2, rfl, p1, p2, ga⟩; have KP := gr_none (by first | exact gr_d _ | exact gr_d1 | exact gr_alloc gr_d1 _ | exact gr_alloc (gr_d _) _ | exact gr_alloc (gr_refl _ _) _ | exact gr_refl _ _) ga; have GG : W9.grownBy wa none := gr_none (by first | exact gr_none GG (gr_d _) | exact gr_none GG gr_d1 | exact GG | exact gr_alloc GG _ | exact gr_alloc (gr_none GG gr_d1) _ | exact gr_alloc (gr_none GG (gr_d _)) _) ga; clear KP; obtain ⟨a_x0, a_x1, a_xf0, a_xf1⟩ := (B9X.out wa GG).c2; obtain ⟨a_y0, a_y1, a_yf0, a_yf1⟩ := (BK.out wa GG).c2) | (go_at_call 32; refine (cxZ_at b1 b2 p q 131074 _ (p1.keep0 (by first | exact gr_d _ | exact gr_d1 | exact gr_alloc gr_d1 _ | exact gr_alloc (gr_d _) _ | exact gr_alloc (gr_refl _ _) _ | exact gr_refl _ _)) (p2.keep0 (by first | exact gr_d _ | exact gr_d1 | exact gr_alloc gr_d1 _ | exact gr_alloc (gr_d _) _ | exact gr_alloc (gr_refl _ _) _ | exact gr_refl _ _)) (by decide)).mono ?_; rintro e wb ⟨rfl, gb⟩; have KP := gr_none (by first | exact gr_d _ | exact gr_d1 | exact gr_alloc gr_d1 _ | exact gr_alloc (gr_d _) _ | exact gr_alloc (gr_refl _ _) _ | exact gr_refl _ _) gb; have GG : W9.grownBy wb none := gr_none (by first | exact gr_none GG (gr_d _) | exact gr_none GG gr_d1 | exact GG | exact gr_alloc GG _ | exact gr_alloc (gr_none GG gr_d1) _ | exact gr_alloc (gr_none GG (gr_d _)) _) gb; clear KP; obtain ⟨b_x0, b_x1, b_xf0, b_xf1⟩ := (B9X.out wb GG).c2; obtain ⟨b_y0, b_y1, b_yf0, b_yf1⟩ := (BK.out wb GG).c2))
      all_goals
        have HGd := hide GG
        go_wp2
        go_ret
        exact ⟨by first | rfl | simp, gr_none GD.out HGd.out⟩
    · have hsd : decide (0 ≤ sg) = false := by
        rw [HSG.out]
        have : p.num.sign < 0 := sign_neg.2 (Rat.not_le.1 hp0)
        exact decide_eq_false (by omega)
      go_wp2_with fail
      have GC := hide (gr_none GB.out G4.out)
      refine (Ends_at tx ty u X Y l m 2097194 w4 HX.out HY.out HL.out (by omega) (by omega) (by omega) (fit_mono HF.out.1 (by decide)) (fit_mono HF.out.2 (by decide)) (fit_mono F3.out (by decide)) (by decide) (gr_cell GC.out HM.out) (HT.out.keep0 GC.out)).mono ?_
      rintro e w8 ⟨rfl, g8⟩
      have hx2 : txZ (enC X Y l) (enR X Y l) (enI X Y l) = .agg #[.string ⟨(qtext p).toArray⟩, .string ⟨(qtext q).toArray⟩] := by unfold txZ; rw [HA.out.2.2.1, if_pos rfl, HA.out.2.2.2.1, HA.out.2.2.2.2]
      rw [hx2, HA.out.2.2.1]
      clear hx2
      have G8 := hide (gr_none G4.out g8)
      clear g8
      go_upto_region 9 with fail
      obtain ⟨W9, hW9⟩ : ∃ wz, wz = (w8.alloc (Obj.cells #[.string ⟨(qtext p).toArray⟩, .string ⟨(qtext q).toArray⟩] 46)) := ⟨_, rfl⟩
      have GW9 : Hid (w8.grownBy W9 none) := by rw [hW9]; exact gr_alloc (gr_refl _ _) _
      have BK : Hid (∀ wx, W9.grownBy wx none → BoxC wx w8.heap.size #[.string ⟨(qtext p).toArray⟩, .string ⟨(qtext q).toArray⟩]) := by
        intro wx g
        rw [hW9] at g
        exact (boxNew w8 #[.string ⟨(qtext p).toArray⟩, .string ⟨(qtext q).toArray⟩] 46).keep0 g
      rw [← hW9]
      clear hW9
      have GD := hide (gr_none GB.out (gr_none G8.out GW9.out))
      have B9X : Hid (∀ wx, W9.grownBy wx none → BoxC wx (w.heap.size) #[.string s, .string t]) := fun wx g => B1X.out wx (gr_none (gr_none GA.out (gr_none G8.out GW9.out)) g)
      have GG : W9.grownBy W9 none := gr_refl _ _
      obtain ⟨x0, x1, xf0, xf1⟩ := (B9X.out W9 GG).c2
      obtain ⟨y0, y1, yf0, yf1⟩ := (BK.out W9 GG).c2
      go_region_held3 (fun w' => w'.cell? ⟨w.heap.size, 0, none⟩ = some (.string s) ∧ w'.cell? ⟨w.heap.size, 1, none⟩ = some (.string t) ∧ w'.cell? ⟨w8.heap.size, 0, none⟩ = some (.string ⟨(qtext p).toArray⟩) ∧ w'.cell? ⟨w8.heap.size, 1, none⟩ = some (.string ⟨(qtext q).toArray⟩)) (go_keep)
        (first | (go_at_call 24; refine (cxOf_at s t p q m 131074 _ HP.out HQ.out (by omega) (by omega) F1.out F2.out (gr_cell (gr_none GD.out (by first | exact gr_none GG (gr_d _) | exact gr_none GG gr_d1 | exact GG | exact gr_alloc GG _ | exact gr_alloc (gr_none GG gr_d1) _ | exact gr_alloc (gr_none GG (gr_d _)) _)) HM.out)).mono ?_; rintro e wa ⟨b1, b2, rfl, p1, p2, ga⟩; have KP := gr_none (by first | exact gr_d _ | exact gr_d1 | exact gr_alloc gr_d1 _ | exact gr_alloc (gr_d _) _ | exact gr_alloc (gr_refl _ _) _ | exact gr_refl _ _) ga; have GG : W9.grownBy wa none := gr_none (by first | exact gr_none GG (gr_d _) | exact gr_none GG gr_d1 | exact GG | exact gr_alloc GG _ | exact gr_alloc (gr_none GG gr_d1) _ | exact gr_alloc (gr_none GG (gr_d _)) _) ga; clear KP; obtain ⟨a_x0, a_x1, a_xf0, a_xf1⟩ := (B9X.out wa GG).c2; obtain ⟨a_y0, a_y1, a_yf0, a_yf1⟩ := (BK.out wa GG).c2) | (go_at_call 32; refine (cxZ_at b1 b2 p q 131074 _ (p1.keep0 (by first | exact gr_d _ | exact gr_d1 | exact gr_alloc gr_d1 _ | exact gr_alloc (gr_d _) _ | exact gr_alloc (gr_refl _ _) _ | exact gr_refl _ _)) (p2.keep0 (by first | exact gr_d _ | exact gr_d1 | exact gr_alloc gr_d1 _ | exact gr_alloc (gr_d _) _ | exact gr_alloc (gr_refl _ _) _ | exact gr_refl _ _)) (by decide)).mono ?_; rintro e wb ⟨rfl, gb⟩; have KP := gr_none (by first | exact gr_d _ | exact gr_d1 | exact gr_alloc gr_d1 _ | exact gr_alloc (gr_d _) _ | exact gr_alloc (gr_refl _ _) _ | exact gr_refl _ _) gb; have GG : W9.grownBy wb none := gr_none (by first | exact gr_none GG (gr_d _) | exact gr_none GG gr_d1 | exact GG | exact gr_alloc GG _ | exact gr_alloc (gr_none GG gr_d1) _ | exact gr_alloc (gr_none GG (gr_d _)) _) gb; clear KP; obtain ⟨b_x0, b_x1, b_xf0, b_xf1⟩ := (B9X.out wb GG).c2; obtain ⟨b_y0, b_y1, b_yf0, b_yf1⟩ := (BK.out wb GG).c2))
      all_goals
        have HGd := hide GG
        go_wp2
        go_ret
        exact ⟨by first | rfl | simp, gr_none GD.out HGd.out⟩
  · go_enter Tryz.func5, Tryz.ntmps5
    go_wp2_with fail
    rw [← hW]
    clear hW
    refine (echoes_at m W (gr_cell GW.out HM.out) (HT.out.keep0 GW.out)).mono ?_
    rintro e w1 ⟨rfl, g1⟩
    have G1 := hide (gr_none GW.out g1)
    have B1X : Hid (∀ wx, w1.grownBy wx none → BoxC wx (w.heap.size) #[.string s, .string t]) := fun wx g => BX.out wx (gr_none g1 g)
    clear g1 x0 x1 xf0 xf1
    obtain ⟨x0, x1, xf0, xf1⟩ := (B1X.out w1 (gr_refl _ _)).c2
    go_wp2_with fail
    refine (Reflect_at s t u p q l m 131074 w1 HP.out HQ.out HL.out (by omega) (by omega) (by omega) F1.out F2.out F3.out (by decide) (gr_cell G1.out HM.out) (HT.out.keep0 G1.out)).mono ?_
    rintro e w2 ⟨rfl, g2⟩
    have hx : txZ (rfC p q l) (rfR p q l) (rfI p q l) = .agg #[.string ⟨#[]⟩, .string ⟨#[]⟩] := by unfold txZ; rw [if_neg hc]
    rw [hx]
    clear hx
    obtain ⟨cc, hcc⟩ : ∃ c, c = rfC p q l := ⟨_, rfl⟩
    rw [← hcc] at hc ⊢
    have hcb : (cc == 0) = false := beq_eq_false_iff_ne.2 hc
    have HCC := hide hcc
    have G2 := hide g2
    clear hc hcc g2
    go_upto_region 5 with fail
    obtain ⟨W3, hW3⟩ : ∃ wz, wz = (w2.alloc (Obj.cells #[.string ⟨#[]⟩, .string ⟨#[]⟩] 46)) := ⟨_, rfl⟩
    have GW3 : Hid (w2.grownBy W3 none) := by rw [hW3]; exact gr_alloc (gr_refl _ _) _
    have BG : Hid (∀ wx, W3.grownBy wx none → BoxC wx w2.heap.size #[.string ⟨#[]⟩, .string ⟨#[]⟩]) := by
      intro wx g
      rw [hW3] at g
      exact (boxNew w2 #[.string ⟨#[]⟩, .string ⟨#[]⟩] 46).keep0 g
    rw [← hW3]
    clear hW3
    have GA := hide (gr_none G2.out GW3.out)
    obtain ⟨k0, k1, kf0, kf1⟩ := (BG.out W3 (gr_refl _ _)).c2
    go_wp2
    go_ret
    exact ⟨by first | rfl | simp, gr_none G1.out GA.out⟩
end Go.Proofs.YtdpagdlmpajjkafGreatDoor
