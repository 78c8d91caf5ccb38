/- frac: Z.Mirrored, Z.Times. -/
import Derived.Test.YtdpagdlmpajjkafGreatDoorXZa
namespace Go.Proofs.YtdpagdlmpajjkafGreatDoor
open Go.RowKit
set_option linter.unusedVariables false
set_option linter.unusedSimpArgs false
set_option maxHeartbeats 8000000 in
set_option maxRecDepth 10000 in
theorem zMir_at (x : Value) (p q : Rat) (L : Nat) (w : World) (hx : ZQ w x p q L) :
    Calls Tryz.prog 154 #[x] w fun e w' => ZQE w p (-q) L e w' := by
  obtain ⟨xk1, xo1, xl1, xc1, xo2, xl2, xc2, xk2, xo3, xl3, xc3, xo4, xl4, xc4, rfl, hx1, hx2⟩ := hx.letters
  have HX1 := hide hx1
  have HX2 := hide hx2
  clear hx hx1 hx2
  obtain ⟨W, hW⟩ : ∃ W, W = ((w.alloc (Obj.cells #[.bool xk1, .slice xo1 xl1 xc1, .slice xo2 xl2 xc2, .bool xk2, .slice xo3 xl3 xc3, .slice xo4 xl4 xc4] 119)).alloc (Obj.cells #[.bool false, .slice none 0 0, .slice none 0 0, .bool false, .slice none 0 0, .slice none 0 0] 119)) := ⟨_, rfl⟩
  have GW : Hid (w.grownBy W none) := by rw [hW]; exact gr_alloc (gr_alloc (gr_refl _ _) _) _
  have BX : Hid (∀ wx, W.grownBy wx none → BoxC wx (w.heap.size) #[.bool xk1, .slice xo1 xl1 xc1, .slice xo2 xl2 xc2, .bool xk2, .slice xo3 xl3 xc3, .slice xo4 xl4 xc4]) := by
    intro wx hg
    rw [hW] at hg
    have h0 := (boxNew' w #[.bool xk1, .slice xo1 xl1 xc1, .slice xo2 xl2 xc2, .bool xk2, .slice xo3 xl3 xc3, .slice xo4 xl4 xc4] 119 (w.heap.size) (by simp))
    exact ((h0).keep0 (gr_alloc (gr_refl _ _) _)).keep0 hg
  have BR : Hid (∀ wx, W.grownBy wx none → BoxC wx (w.heap.size + 1) #[.bool false, .slice none 0 0, .slice none 0 0, .bool false, .slice none 0 0, .slice none 0 0]) := by
    intro wx hg
    rw [hW] at hg
    have h0 := (boxNew' (w.alloc (Obj.cells #[.bool xk1, .slice xo1 xl1 xc1, .slice xo2 xl2 xc2, .bool xk2, .slice xo3 xl3 xc3, .slice xo4 xl4 xc4] 119)) #[.bool false, .slice none 0 0, .slice none 0 0, .bool false, .slice none 0 0, .slice none 0 0] 119 (w.heap.size + 1) (by simp))
    exact (h0).keep0 hg
  have hne1_0 : ¬ w.heap.size + 1 = w.heap.size := by omega
  have hnf1_0 : ¬ w.heap.size = w.heap.size + 1 := by omega
  obtain ⟨x0, x1, x2, x3, x4, x5, xf0, xf1, xf2, xf3, xf4, xf5⟩ := (BX.out W (gr_refl _ _)).c6
  go_enter Tryz.func154, Tryz.ntmps154
  go_wp2
  rw [← hW]
  clear hW
  have GG : W.grownBy W none := gr_refl _ _
  go_region_held3 (fun w' => w'.cell? ⟨w.heap.size, 0, none⟩ = some (.bool xk1) ∧ w'.cell? ⟨w.heap.size, 1, none⟩ = some (.slice xo1 xl1 xc1) ∧ w'.cell? ⟨w.heap.size, 2, none⟩ = some (.slice xo2 xl2 xc2) ∧ w'.cell? ⟨w.heap.size, 3, none⟩ = some (.bool xk2) ∧ w'.cell? ⟨w.heap.size, 4, none⟩ = some (.slice xo3 xl3 xc3) ∧ w'.cell? ⟨w.heap.size, 5, none⟩ = some (.slice xo4 xl4 xc4)) (go_keep)
    (first | (go_at_call 192; refine (qOpp_at _ q L _ (HX2.out.keep0 (gr_none GW.out (by first | exact gr_none GG (gr_d _) | exact gr_none GG gr_d1 | exact GG)))).mono ?_; rintro e wa ⟨va, rfl, pa, ga⟩; obtain ⟨ak, ao1, al1, ac1, ao2, al2, ac2, rfl⟩ := pa.letters; have KP := gr_none (by first | exact gr_d _ | exact gr_d1 | exact gr_refl _ _) ga; have GG : W.grownBy wa none := gr_none (by first | exact gr_none GG (gr_d _) | exact gr_none GG gr_d1 | exact GG) ga; clear KP; obtain ⟨ax0, ax1, ax2, ax3, ax4, ax5, axf0, axf1, axf2, axf3, axf4, axf5⟩ := (BX.out wa GG).c6; obtain ⟨ar0, ar1, ar2, ar3, ar4, ar5, arf0, arf1, arf2, arf3, arf4, arf5⟩ := (BR.out wa GG).c6))
  all_goals
    have F2 := hide pa
    have HGd := hide GG
    clear pa
    go_wp2
    refine bodyPost_ret (v := .agg #[.bool xk1, .slice xo1 xl1 xc1, .slice xo2 xl2 xc2, .bool ak, .slice ao1 al1 ac1, .slice ao2 al2 ac2]) (by first | (simp [results, Tryz.results154, go_sem, ar0, ar1, ar2, ar3, ar4, ar5]; done) | (simp [results, Tryz.results154, go_sem, ar0, ar1, ar2, ar3, ar4, ar5]; rfl)) rfl ?_
    refine ⟨_, rfl, ZQ.kept (ZQ.of (HX1.out.keep0 (gr_none GW.out HGd.out)) F2.out) ((BR.out _ HGd.out).kept6 _ _ _ _ _ _ (noWd6 _ _ _ _ _ _ _ _ _ _ _ _ _ _)), ?_⟩
    exact gr_set (gr_set (gr_set (gr_set (gr_set (gr_set ((gr_none GW.out HGd.out)) _ _ (by first | (simp; done) | (simp; omega))) _ _ (by first | (simp; done) | (simp; omega))) _ _ (by first | (simp; done) | (simp; omega))) _ _ (by first | (simp; done) | (simp; omega))) _ _ (by first | (simp; done) | (simp; omega))) _ _ (by first | (simp; done) | (simp; omega))
set_option maxHeartbeats 16000000 in
set_option maxRecDepth 10000 in
theorem zTimes_at (x y : Value) (p q r s : Rat) (L M : Nat) (w : World) (hx : ZQ w x p q L) (hy : ZQ w y r s M) (hl : L + M ≤ 1900000000000) :
    Calls Tryz.prog 79 #[x, y] w fun e w' => ZQE w (p * r - q * s) (p * s + q * r) (2 * (L + M) + 4) e w' := by
  obtain ⟨xk1, xo1, xl1, xc1, xo2, xl2, xc2, xk2, xo3, xl3, xc3, xo4, xl4, xc4, rfl, hx1, hx2⟩ := hx.letters
  obtain ⟨yk1, yo1, yl1, yc1, yo2, yl2, yc2, yk2, yo3, yl3, yc3, yo4, yl4, yc4, rfl, hy1, hy2⟩ := hy.letters
  have HX1 := hide hx1
  have HX2 := hide hx2
  have HY1 := hide hy1
  have HY2 := hide hy2
  clear hx hy hx1 hx2 hy1 hy2
  obtain ⟨W, hW⟩ : ∃ W, W = (((w.alloc (Obj.cells #[.bool xk1, .slice xo1 xl1 xc1, .slice xo2 xl2 xc2, .bool xk2, .slice xo3 xl3 xc3, .slice xo4 xl4 xc4] 119)).alloc (Obj.cells #[.bool yk1, .slice yo1 yl1 yc1, .slice yo2 yl2 yc2, .bool yk2, .slice yo3 yl3 yc3, .slice yo4 yl4 yc4] 119)).alloc (Obj.cells #[.bool false, .slice none 0 0, .slice none 0 0, .bool false, .slice none 0 0, .slice none 0 0] 119)) := ⟨_, rfl⟩
  have GW : Hid (w.grownBy W none) := by rw [hW]; exact gr_alloc (gr_alloc (gr_alloc (gr_refl _ _) _) _) _
  have BX : Hid (∀ wx, W.grownBy wx none → BoxC wx (w.heap.size) #[.bool xk1, .slice xo1 xl1 xc1, .slice xo2 xl2 xc2, .bool xk2, .slice xo3 xl3 xc3, .slice xo4 xl4 xc4]) := by
    intro wx hg
    rw [hW] at hg
    have h0 := (boxNew' w #[.bool xk1, .slice xo1 xl1 xc1, .slice xo2 xl2 xc2, .bool xk2, .slice xo3 xl3 xc3, .slice xo4 xl4 xc4] 119 (w.heap.size) (by simp))
    exact (((h0).keep0 (gr_alloc (gr_refl _ _) _)).keep0 (gr_alloc (gr_refl _ _) _)).keep0 hg
  have BY : Hid (∀ wx, W.grownBy wx none → BoxC wx (w.heap.size + 1) #[.bool yk1, .slice yo1 yl1 yc1, .slice yo2 yl2 yc2, .bool yk2, .slice yo3 yl3 yc3, .slice yo4 yl4 yc4]) := by
    intro wx hg
    rw [hW] at hg
    have h0 := (boxNew' (w.alloc (Obj.cells #[.bool xk1, .slice xo1 xl1 xc1, .slice xo2 xl2 xc2, .bool xk2, .slice xo3 xl3 xc3, .slice xo4 xl4 xc4] 119)) #[.bool yk1, .slice yo1 yl1 yc1, .slice yo2 yl2 yc2, .bool yk2, .slice yo3 yl3 yc3, .slice yo4 yl4 yc4] 119 (w.heap.size + 1) (by simp))
    exact ((h0).keep0 (gr_alloc (gr_refl _ _) _)).keep0 hg
  have BR : Hid (∀ wx, W.grownBy wx none → BoxC wx (w.heap.size + 1 + 1) #[.bool false, .slice none 0 0, .slice none 0 0, .bool false, .slice none 0 0, .slice none 0 0]) := by
    intro wx hg
    rw [hW] at hg
    have h0 := (boxNew' ((w.alloc (Obj.cells #[.bool xk1, .slice xo1 xl1 xc1, .slice xo2 xl2 xc2, .bool xk2, .slice xo3 xl3 xc3, .slice xo4 xl4 xc4] 119)).alloc (Obj.cells #[.bool yk1, .slice yo1 yl1 yc1, .slice yo2 yl2 yc2, .bool yk2, .slice yo3 yl3 yc3, .slice yo4 yl4 yc4] 119)) #[.bool false, .slice none 0 0, .slice none 0 0, .bool false, .slice none 0 0, .slice none 0 0] 119 (w.heap.size + 1 + 1) (by simp))
    exact (h0).keep0 hg
  have hne2_0 : ¬ w.heap.size + 1 + 1 = w.heap.size := by omega
  have hnf2_0 : ¬ w.heap.size = w.heap.size + 1 + 1 := by omega
  have hne2_1 : ¬ w.heap.size + 1 + 1 = w.heap.size + 1 := by omega
  have hnf2_1 : ¬ w.heap.size + 1 = w.heap.size + 1 + 1 := by omega
  obtain ⟨x0, x1, x2, x3, x4, x5, xf0, xf1, xf2, xf3, xf4, xf5⟩ := (BX.out W (gr_refl _ _)).c6
  obtain ⟨y0, y1, y2, y3, y4, y5, yf0, yf1, yf2, yf3, yf4, yf5⟩ := (BY.out W (gr_refl _ _)).c6
  go_enter Tryz.func79, Tryz.ntmps79
  go_wp2
  rw [← hW]
  clear hW
  have GG : W.grownBy W none := gr_refl _ _
  go_region_held3 (fun w' => w'.cell? ⟨w.heap.size, 0, none⟩ = some (.bool xk1) ∧ w'.cell? ⟨w.heap.size, 1, none⟩ = some (.slice xo1 xl1 xc1) ∧ w'.cell? ⟨w.heap.size, 2, none⟩ = some (.slice xo2 xl2 xc2) ∧ w'.cell? ⟨w.heap.size, 3, none⟩ = some (.bool xk2) ∧ w'.cell? ⟨w.heap.size, 4, none⟩ = some (.slice xo3 xl3 xc3) ∧ w'.cell? ⟨w.heap.size, 5, none⟩ = some (.slice xo4 xl4 xc4) ∧ w'.cell? ⟨w.heap.size + 1, 0, none⟩ = some (.bool yk1) ∧ w'.cell? ⟨w.heap.size + 1, 1, none⟩ = some (.slice yo1 yl1 yc1) ∧ w'.cell? ⟨w.heap.size + 1, 2, none⟩ = some (.slice yo2 yl2 yc2) ∧ w'.cell? ⟨w.heap.size + 1, 3, none⟩ = some (.bool yk2) ∧ w'.cell? ⟨w.heap.size + 1, 4, none⟩ = some (.slice yo3 yl3 yc3) ∧ w'.cell? ⟨w.heap.size + 1, 5, none⟩ = some (.slice yo4 yl4 yc4)) (go_keep)
    (first | (go_at_call_of 86 (Value.agg #[.bool xk1, .slice xo1 xl1 xc1, .slice xo2 xl2 xc2]); go_at_call_of 86 (Value.agg #[.bool yk1, .slice yo1 yl1 yc1, .slice yo2 yl2 yc2]); refine (qTimes_at _ _ p r L M _ (HX1.out.keep0 (gr_none GW.out (by first | exact gr_none GG (gr_d _) | exact gr_none GG gr_d1 | exact GG))) (HY1.out.keep0 (gr_none GW.out (by first | exact gr_none GG (gr_d _) | exact gr_none GG gr_d1 | exact GG))) (by omega)).mono ?_; rintro e wa ⟨va, rfl, pa, ga⟩; obtain ⟨ak, ao1, al1, ac1, ao2, al2, ac2, rfl⟩ := pa.letters; have KP := gr_none (by first | exact gr_d _ | exact gr_d1 | exact gr_refl _ _) ga; have GG : W.grownBy wa none := gr_none (by first | exact gr_none GG (gr_d _) | exact gr_none GG gr_d1 | exact GG) ga; clear KP; obtain ⟨ax0, ax1, ax2, ax3, ax4, ax5, axf0, axf1, axf2, axf3, axf4, axf5⟩ := (BX.out wa GG).c6; obtain ⟨ay0, ay1, ay2, ay3, ay4, ay5, ayf0, ayf1, ayf2, ayf3, ayf4, ayf5⟩ := (BY.out wa GG).c6; obtain ⟨ar0, ar1, ar2, ar3, ar4, ar5, arf0, arf1, arf2, arf3, arf4, arf5⟩ := (BR.out wa GG).c6) | (go_at_call_of 86 (Value.agg #[.bool xk2, .slice xo3 xl3 xc3, .slice xo4 xl4 xc4]); go_at_call_of 86 (Value.agg #[.bool yk2, .slice yo3 yl3 yc3, .slice yo4 yl4 yc4]); refine (qTimes_at _ _ q s L M _ (HX2.out.keep0 (gr_none GW.out (by first | exact gr_none GG (gr_d _) | exact gr_none GG gr_d1 | exact GG))) (HY2.out.keep0 (gr_none GW.out (by first | exact gr_none GG (gr_d _) | exact gr_none GG gr_d1 | exact GG))) (by omega)).mono ?_; rintro e wb ⟨vb, rfl, pb, gb⟩; obtain ⟨bk, bo1, bl1, bc1, bo2, bl2, bc2, rfl⟩ := pb.letters; have KP := gr_none (by first | exact gr_d _ | exact gr_d1 | exact gr_refl _ _) gb; have GG : W.grownBy wb none := gr_none (by first | exact gr_none GG (gr_d _) | exact gr_none GG gr_d1 | exact GG) gb; (try have pa := pa.keep0 KP); clear KP; obtain ⟨bx0, bx1, bx2, bx3, bx4, bx5, bxf0, bxf1, bxf2, bxf3, bxf4, bxf5⟩ := (BX.out wb GG).c6; obtain ⟨by0, by1, by2, by3, by4, by5, byf0, byf1, byf2, byf3, byf4, byf5⟩ := (BY.out wb GG).c6; obtain ⟨br0, br1, br2, br3, br4, br5, brf0, brf1, brf2, brf3, brf4, brf5⟩ := (BR.out wb GG).c6) | (go_at_call 156; refine (qMinus_at _ _ (p * r) (q * s) (L + M + 1) (L + M + 1) _ (pa.keep0 (by first | exact gr_d _ | exact gr_d1 | exact gr_refl _ _)) (pb.keep0 (by first | exact gr_d _ | exact gr_d1 | exact gr_refl _ _)) (by omega)).mono ?_; rintro e wc ⟨vc, rfl, pc, gc⟩; obtain ⟨ck, co1, cl1, cc1, co2, cl2, cc2, rfl⟩ := pc.letters; have KP := gr_none (by first | exact gr_d _ | exact gr_d1 | exact gr_refl _ _) gc; have GG : W.grownBy wc none := gr_none (by first | exact gr_none GG (gr_d _) | exact gr_none GG gr_d1 | exact GG) gc; (try have pa := pa.keep0 KP); (try have pb := pb.keep0 KP); clear KP; obtain ⟨cx0, cx1, cx2, cx3, cx4, cx5, cxf0, cxf1, cxf2, cxf3, cxf4, cxf5⟩ := (BX.out wc GG).c6; obtain ⟨cy0, cy1, cy2, cy3, cy4, cy5, cyf0, cyf1, cyf2, cyf3, cyf4, cyf5⟩ := (BY.out wc GG).c6; obtain ⟨cr0, cr1, cr2, cr3, cr4, cr5, crf0, crf1, crf2, crf3, crf4, crf5⟩ := (BR.out wc GG).c6) | (go_at_call_of 86 (Value.agg #[.bool xk1, .slice xo1 xl1 xc1, .slice xo2 xl2 xc2]); go_at_call_of 86 (Value.agg #[.bool yk2, .slice yo3 yl3 yc3, .slice yo4 yl4 yc4]); refine (qTimes_at _ _ p s L M _ (HX1.out.keep0 (gr_none GW.out (by first | exact gr_none GG (gr_d _) | exact gr_none GG gr_d1 | exact GG))) (HY2.out.keep0 (gr_none GW.out (by first | exact gr_none GG (gr_d _) | exact gr_none GG gr_d1 | exact GG))) (by omega)).mono ?_; rintro e wd ⟨vd, rfl, pd, gd⟩; obtain ⟨dk, do1, dl1, dc1, do2, dl2, dc2, rfl⟩ := pd.letters; have KP := gr_none (by first | exact gr_d _ | exact gr_d1 | exact gr_refl _ _) gd; have GG : W.grownBy wd none := gr_none (by first | exact gr_none GG (gr_d _) | exact gr_none GG gr_d1 | exact GG) gd; (try have pa := pa.keep0 KP); (try have pb := pb.keep0 KP); (try have pc := pc.keep0 KP); clear KP; obtain ⟨dx0, dx1, dx2, dx3, dx4, dx5, dxf0, dxf1, dxf2, dxf3, dxf4, dxf5⟩ := (BX.out wd GG).c6; obtain ⟨dy0, dy1, dy2, dy3, dy4, dy5, dyf0, dyf1, dyf2, dyf3, dyf4, dyf5⟩ := (BY.out wd GG).c6; obtain ⟨dr0, dr1, dr2, dr3, dr4, dr5, drf0, drf1, drf2, drf3, drf4, drf5⟩ := (BR.out wd GG).c6) | (go_at_call_of 86 (Value.agg #[.bool xk2, .slice xo3 xl3 xc3, .slice xo4 xl4 xc4]); go_at_call_of 86 (Value.agg #[.bool yk1, .slice yo1 yl1 yc1, .slice yo2 yl2 yc2]); refine (qTimes_at _ _ q r L M _ (HX2.out.keep0 (gr_none GW.out (by first | exact gr_none GG (gr_d _) | exact gr_none GG gr_d1 | exact GG))) (HY1.out.keep0 (gr_none GW.out (by first | exact gr_none GG (gr_d _) | exact gr_none GG gr_d1 | exact GG))) (by omega)).mono ?_; rintro e we ⟨ve, rfl, pe, ge⟩; obtain ⟨ek, eo1, el1, ec1, eo2, el2, ec2, rfl⟩ := pe.letters; have KP := gr_none (by first | exact gr_d _ | exact gr_d1 | exact gr_refl _ _) ge; have GG : W.grownBy we none := gr_none (by first | exact gr_none GG (gr_d _) | exact gr_none GG gr_d1 | exact GG) ge; (try have pa := pa.keep0 KP); (try have pb := pb.keep0 KP); (try have pc := pc.keep0 KP); (try have pd := pd.keep0 KP); clear KP; obtain ⟨ex0, ex1, ex2, ex3, ex4, ex5, exf0, exf1, exf2, exf3, exf4, exf5⟩ := (BX.out we GG).c6; obtain ⟨ey0, ey1, ey2, ey3, ey4, ey5, eyf0, eyf1, eyf2, eyf3, eyf4, eyf5⟩ := (BY.out we GG).c6; obtain ⟨er0, er1, er2, er3, er4, er5, erf0, erf1, erf2, erf3, erf4, erf5⟩ := (BR.out we GG).c6) | (go_at_call 88; refine (qPlus_at _ _ (p * s) (q * r) (L + M + 1) (L + M + 1) _ (pd.keep0 (by first | exact gr_d _ | exact gr_d1 | exact gr_refl _ _)) (pe.keep0 (by first | exact gr_d _ | exact gr_d1 | exact gr_refl _ _)) (by omega)).mono ?_; rintro e wf ⟨vf, rfl, pf, gf⟩; obtain ⟨fk, fo1, fl1, fc1, fo2, fl2, fc2, rfl⟩ := pf.letters; have KP := gr_none (by first | exact gr_d _ | exact gr_d1 | exact gr_refl _ _) gf; have GG : W.grownBy wf none := gr_none (by first | exact gr_none GG (gr_d _) | exact gr_none GG gr_d1 | exact GG) gf; (try have pa := pa.keep0 KP); (try have pb := pb.keep0 KP); (try have pc := pc.keep0 KP); (try have pd := pd.keep0 KP); (try have pe := pe.keep0 KP); clear KP; obtain ⟨fx0, fx1, fx2, fx3, fx4, fx5, fxf0, fxf1, fxf2, fxf3, fxf4, fxf5⟩ := (BX.out wf GG).c6; obtain ⟨fy0, fy1, fy2, fy3, fy4, fy5, fyf0, fyf1, fyf2, fyf3, fyf4, fyf5⟩ := (BY.out wf GG).c6; obtain ⟨fr0, fr1, fr2, fr3, fr4, fr5, frf0, frf1, frf2, frf3, frf4, frf5⟩ := (BR.out wf GG).c6))
  all_goals
    have F1 := hide (pc.mono (show L + M + 1 + (L + M + 1) + 2 ≤ 2 * (L + M) + 4 by omega))
    have F2 := hide (pf.mono (show L + M + 1 + (L + M + 1) + 2 ≤ 2 * (L + M) + 4 by omega))
    have HGd := hide GG
    clear pa pb pc pd pe pf
    go_wp2
    refine bodyPost_ret (v := .agg #[.bool ck, .slice co1 cl1 cc1, .slice co2 cl2 cc2, .bool fk, .slice fo1 fl1 fc1, .slice fo2 fl2 fc2]) (by first | (simp [results, Tryz.results79, go_sem, fr0, fr1, fr2, fr3, fr4, fr5]; done) | (simp [results, Tryz.results79, go_sem, fr0, fr1, fr2, fr3, fr4, fr5]; rfl)) rfl ?_
    refine ⟨_, rfl, ZQ.kept (ZQ.of F1.out F2.out) ((BR.out _ HGd.out).kept6 _ _ _ _ _ _ (noWd6 _ _ _ _ _ _ _ _ _ _ _ _ _ _)), ?_⟩
    exact gr_set (gr_set (gr_set (gr_set (gr_set (gr_set ((gr_none GW.out HGd.out)) _ _ (by first | (simp; done) | (simp; omega))) _ _ (by first | (simp; done) | (simp; omega))) _ _ (by first | (simp; done) | (simp; omega))) _ _ (by first | (simp; done) | (simp; omega))) _ _ (by first | (simp; done) | (simp; omega))) _ _ (by first | (simp; done) | (simp; omega))
end Go.Proofs.YtdpagdlmpajjkafGreatDoor
