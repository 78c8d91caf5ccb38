/- frac: Common. -/
import Derived.Test.YtklkpkkjakllfaaGreatDoorXFg
import Derived.Deep.DeepCutAuto
set_option linter.unusedVariables false
set_option linter.unusedSimpArgs false
set_option maxHeartbeats 8000000
set_option maxRecDepth 10000
namespace Go.Proofs.YtklkpkkjakllfaaGreatDoor
open Go.RowKit
theorem gcd_zero (va vb : Value) (L : Nat) (w : World) (hx : Num w va 0 L) (hy : Num w vb 0 L) (hl : L ≤ 8000000000000) :
    Calls Tryz.prog 124 #[va, vb] w fun e w' => GcdE w 0 L e w' := by
  obtain ⟨xs, h1, h2, h3, h4⟩ := hx
  obtain ⟨ys, k1, k2, k3, k4⟩ := hy
  have WA := hide h1
  have WB := hide k1
  have TX := hide h2
  have TY := hide k2
  have VX := hide h3
  have VY := hide k3
  have hord : Hid (ord (val xs) (val ys) = 0) := by show _ = _; rw [h3, k3]; rfl
  obtain ⟨ao, ca, ea, hca, hca', _⟩ := h1.open
  obtain ⟨bo, cb, eb, hcb, hcb', _⟩ := k1.open
  unfold maxLen at hca' hcb'
  have hyl : ys.length = 0 := by
    by_cases h : ys = []
    · rw [h]; rfl
    · have := tr_ge k2 h
      have p3 : 0 < 4294967296 ^ (ys.length - 1) := Nat.pow_pos (by decide)
      omega
  have bb : (((ys.length : Nat) : Int) == 0) = true := beq_iff_eq.2 (by omega)
  subst ea eb
  clear h1 k1 h2 k2 h3 k3 hyl
  go_enter Tryz.func124, Tryz.ntmps124
  go_wp2_with fail
  refine (fcompare_ws _ _ xs ys _ WA.out WB.out TX.out TY.out).mono ?_
  rintro e w1 ⟨rfl, q1, rfl⟩
  rw [hord.out]
  clear hord
  go_wp2
  go_loopg [0, 1] 0 (fun k av bv wr => Hid (av = .slice ao xs.length ca ∧ bv = .slice bo ys.length cb ∧ w.grownBy wr none))
  case atStart => exact ⟨rfl, rfl, gr_d _⟩
  case round =>
    obtain ⟨rfl, rfl, g1⟩ := hrel.out
    have G1 := hide g1
    clear g1 hrel
    go_wp2_with fail
    refine (bits_num _ 0 L _ ⟨ys, WB.out.keep0 G1.out, TY.out, VY.out, k4⟩ (by omega)).mono ?_
    rintro e w2 ⟨kb, rfl, hkb, hkb2, rfl⟩
    have hk0 : ¬ 62 < kb := by
      intro h
      have := bits_gt hkb h
      simp at this
    clear hkb hkb2
    go_wp2
    go_ret
    exact ⟨_, rfl, ⟨xs, WA.out.keep0 G1.out, TX.out, VX.out, h4⟩, G1.out⟩
theorem gcdz_num (x y : Value) (n m L : Nat) (w : World) (hx : Num w x n L) (hy : Num w y m L) (hl : L ≤ 8000000000000) :
    Calls Tryz.prog 124 #[x, y] w fun e w' => GcdE w (Nat.gcd n m) L e w' := by
  by_cases h : 0 < n ∨ 0 < m
  · exact gcd_num x y n m L w hx hy h hl
  · obtain ⟨rfl, rfl⟩ : n = 0 ∧ m = 0 := by omega
    exact gcd_zero x y L w hx hy hl
theorem lcm_form (d1 d2 : Nat) : d1 * (d2 / Nat.gcd d1 d2) = Nat.lcm d1 d2 := by
  unfold Nat.lcm
  rw [Nat.mul_div_assoc _ (Nat.gcd_dvd_right d1 d2)]
theorem comm_cop {n1 d1 n2 d2 : Nat} (h1 : Nat.gcd n1 d1 = 1) (h2 : Nat.gcd n2 d2 = 1) : Nat.gcd (Nat.gcd n1 n2) (Nat.lcm d1 d2) = 1 := by
  have a1 : Nat.Coprime (Nat.gcd n1 n2) d1 := Nat.Coprime.coprime_dvd_left (Nat.gcd_dvd_left n1 n2) h1
  have a2 : Nat.Coprime (Nat.gcd n1 n2) d2 := Nat.Coprime.coprime_dvd_left (Nat.gcd_dvd_right n1 n2) h2
  exact Nat.Coprime.coprime_dvd_right (Nat.lcm_dvd (Nat.dvd_mul_right _ _) (Nat.dvd_mul_left _ _)) (Nat.Coprime.mul_right a1 a2)
theorem fcommon_at (uo vo do_ eo : Option Addr) (ul uc vl vc dl dc el ec : Nat) (b1 b2 : Bool) (n1 d1 L1 n2 d2 L2 : Nat) (w : World) (hx : FV w (.agg #[.bool b1, .slice uo ul uc, .slice do_ dl dc]) b1 n1 d1 L1) (hy : FV w (.agg #[.bool b2, .slice vo vl vc, .slice eo el ec]) b2 n2 d2 L2) (hl : L1 + L2 ≤ 4000000000000) :
    Calls Tryz.prog 97 #[.agg #[.bool b1, .slice uo ul uc, .slice do_ dl dc], .agg #[.bool b2, .slice vo vl vc, .slice eo el ec]] w fun e w' => LowE w (lowQ false (Nat.gcd n1 n2) (Nat.lcm d1 d2)).1 (lowQ false (Nat.gcd n1 n2) (Nat.lcm d1 d2)).2.1 (lowQ false (Nat.gcd n1 n2) (Nat.lcm d1 d2)).2.2 (L1 + L2 + 2) e w' := by
  have HX := hide hx
  have HY := hide hy
  obtain ⟨hd1, hd1L⟩ := hx.down_le
  obtain ⟨hd2, hd2L⟩ := hy.down_le
  have hc1 := hx.cop
  have hc2 := hy.cop
  have NX : Hid (Num w (.slice uo ul uc) n1 L1) := by
    obtain ⟨up, down, e, h1, _⟩ := hx
    simp only [Value.agg.injEq, Array.mk.injEq, List.cons.injEq, and_true, true_and] at e
    rw [e.1]; exact h1
  have NY : Hid (Num w (.slice vo vl vc) n2 L2) := by
    obtain ⟨up, down, e, h1, _⟩ := hy
    simp only [Value.agg.injEq, Array.mk.injEq, List.cons.injEq, and_true, true_and] at e
    rw [e.1]; exact h1
  clear hx hy
  obtain ⟨G, eG⟩ : ∃ G, G = Nat.gcd d1 d2 := ⟨_, rfl⟩
  have hG : 0 < G := by rw [eG]; exact Nat.gcd_pos_of_pos_left _ hd1
  have hY1 : d2 / G < 4294967296 ^ (L2 + 1) := pow_up (Nat.le_trans (Nat.div_le_self _ _) hd2L)
  have HL : Hid (d1 * (d2 / G) = Nat.lcm d1 d2) := by rw [eG]; exact lcm_form d1 d2
  have hV0 : 0 < d1 * (d2 / G) := by rw [HL.out]; exact Nat.lcm_pos hd1 hd2
  have HCOP : Hid (Nat.gcd n1 n2 = 0 ∨ Nat.gcd (Nat.gcd n1 n2) (d1 * (d2 / G)) = 1) := .inr (by rw [HL.out]; exact comm_cop hc1 hc2)
  rw [← HL.out]
  have EG := hide eG
  have HY1 := hide hY1
  clear hY1
  have hY1 := HY1.out
  clear eG hc1 hc2 hd1L hd2L
  obtain ⟨W, hW⟩ : ∃ W, W = ((w.alloc (Obj.cells #[.bool b1, .slice uo ul uc, .slice do_ dl dc] 75)).alloc (Obj.cells #[.bool b2, .slice vo vl vc, .slice eo el ec] 75)).alloc (Obj.cells #[.bool false, .slice none 0 0, .slice none 0 0] 75) := ⟨_, rfl⟩
  have GW : Hid (w.grownBy W none) := by rw [hW]; exact gr_alloc (gr_alloc (gr_alloc (gr_refl _ _) _) _) _
  have NW : Hid (∀ wx, W.grownBy wx none → NoWords wx (w.heap.size + 1 + 1)) := by
    intro wx hg
    rw [hW] at hg
    have := noWords_res hg
    simpa using this
  have CELLS : Hid (∀ wx, W.grownBy wx none → (wx.cell? ⟨w.heap.size, 0, none⟩ = some (.bool b1) ∧ wx.cell? ⟨w.heap.size, 1, none⟩ = some (.slice uo ul uc) ∧ wx.cell? ⟨w.heap.size, 2, none⟩ = some (.slice do_ dl dc)) ∧ (wx.cell? ⟨w.heap.size + 1, 0, none⟩ = some (.bool b2) ∧ wx.cell? ⟨w.heap.size + 1, 1, none⟩ = some (.slice vo vl vc) ∧ wx.cell? ⟨w.heap.size + 1, 2, none⟩ = some (.slice eo el ec)) ∧ (wx.cell? ⟨w.heap.size + 1 + 1, 0, none⟩ = some (.bool false) ∧ wx.cell? ⟨w.heap.size + 1 + 1, 1, none⟩ = some (.slice none 0 0) ∧ wx.cell? ⟨w.heap.size + 1 + 1, 2, none⟩ = some (.slice none 0 0)) ∧ ∀ i, wx.frozen? ⟨w.heap.size + 1 + 1, i, none⟩ = false) := by
    intro wx hg
    rw [hW] at hg
    have a1 := box_three (gr_none (gr_alloc (gr_alloc (gr_refl _ none) _) _) hg)
    have a2 := box_three (w := w.alloc (Obj.cells #[.bool b1, .slice uo ul uc, .slice do_ dl dc] 75)) (gr_none (gr_alloc (gr_refl _ none) _) hg)
    have a3 := res_cells hg
    have e3 : ((w.alloc (Obj.cells #[.bool b1, .slice uo ul uc, .slice do_ dl dc] 75)).alloc (Obj.cells #[.bool b2, .slice vo vl vc, .slice eo el ec] 75)).heap.size = w.heap.size + 1 + 1 := by simp
    rw [e3] at a3
    refine ⟨a1, by simpa using a2, ?_, ?_⟩
    · exact ⟨a3.1, a3.2.1, a3.2.2.1⟩
    · exact a3.2.2.2
  obtain ⟨⟨s0, s1, s2⟩, ⟨t0, t1, t2⟩, ⟨r0, r1, r2⟩, rf⟩ := CELLS.out W (gr_refl _ _)
  clear rf
  have hne1 : ¬ w.heap.size + 1 + 1 = w.heap.size := by omega
  have hne2 : ¬ w.heap.size = w.heap.size + 1 + 1 := by omega
  have hne3 : ¬ w.heap.size + 1 + 1 = w.heap.size + 1 := by omega
  go_enter Tryz.func97, Tryz.ntmps97
  go_upto_region 1 with fail
  rw [← hW]
  clear hW
  have GG : W.grownBy W none := gr_refl _ _
  go_cut [5] (fun s5 wx => Hid (W.grownBy wx none ∧ (∃ o l c, s5 = .slice o l c) ∧ Num wx s5 G (L1 + L2 + 1)))
  case first =>
    go_region_held3 (fun w' => w'.cell? ⟨w.heap.size, 0, none⟩ = some (.bool b1) ∧ w'.cell? ⟨w.heap.size, 1, none⟩ = some (.slice uo ul uc) ∧ w'.cell? ⟨w.heap.size, 2, none⟩ = some (.slice do_ dl dc) ∧ w'.cell? ⟨w.heap.size + 1, 0, none⟩ = some (.bool b2) ∧ w'.cell? ⟨w.heap.size + 1, 1, none⟩ = some (.slice vo vl vc) ∧ w'.cell? ⟨w.heap.size + 1, 2, none⟩ = some (.slice eo el ec)) (go_keep)
      (first | (go_at_call_of 121 (Value.agg #[.bool b1, .slice uo ul uc, .slice do_ dl dc]); refine (bar_at _ b1 n1 d1 L1 _ (HX.out.keep0 (gr_none GW.out (by first | exact gr_none GG (gr_d _) | exact gr_none GG gr_d1 | exact GG)))).mono ?_; rintro e wa ⟨va, rfl, pa, ga⟩; obtain ⟨ao, al, ac, rfl, _, _, _⟩ := pa.shape; have KP := gr_none (by first | exact gr_d _ | exact gr_d1 | exact gr_refl _ _) ga; have GG : W.grownBy wa none := gr_none (by first | exact gr_none GG (gr_d _) | exact gr_none GG gr_d1 | exact GG) ga; (try have pb := pb.keep0 KP); (try have px := px.keep0 KP); clear KP; obtain ⟨⟨ca0, ca1, ca2⟩, ⟨ca3, ca4, ca5⟩, ⟨ca6, ca7, ca8⟩, caf⟩ := CELLS.out wa GG; have caf0 := caf 0; have caf1 := caf 1; have caf2 := caf 2; clear caf) | (go_at_call_of 121 (Value.agg #[.bool b2, .slice vo vl vc, .slice eo el ec]); refine (bar_at _ b2 n2 d2 L2 _ (HY.out.keep0 (gr_none GW.out (by first | exact gr_none GG (gr_d _) | exact gr_none GG gr_d1 | exact GG)))).mono ?_; rintro e wb ⟨vb, rfl, pb, gb⟩; obtain ⟨bo, bl, bc, rfl, _, _, _⟩ := pb.shape; have KP := gr_none (by first | exact gr_d _ | exact gr_d1 | exact gr_refl _ _) gb; have GG : W.grownBy wb none := gr_none (by first | exact gr_none GG (gr_d _) | exact gr_none GG gr_d1 | exact GG) gb; (try have pa := pa.keep0 KP); (try have px := px.keep0 KP); clear KP; obtain ⟨⟨cb0, cb1, cb2⟩, ⟨cb3, cb4, cb5⟩, ⟨cb6, cb7, cb8⟩, cbf⟩ := CELLS.out wb GG; have cbf0 := cbf 0; have cbf1 := cbf 1; have cbf2 := cbf 2; clear cbf) | (go_at_call 124; refine (gcd_num _ _ d1 d2 (L1 + L2 + 1) _ ((pa.keep0 (by first | exact gr_d _ | exact gr_d1 | exact gr_refl _ _)).mono (by omega)) ((pb.keep0 (by first | exact gr_d _ | exact gr_d1 | exact gr_refl _ _)).mono (by omega)) (.inl hd1) (by omega)).mono ?_; rintro e wx ⟨vx, rfl, px, gx⟩; obtain ⟨xo, xl, xc, rfl, _, _, _⟩ := px.shape; have KP := gr_none (by first | exact gr_d _ | exact gr_d1 | exact gr_refl _ _) gx; have GG : W.grownBy wx none := gr_none (by first | exact gr_none GG (gr_d _) | exact gr_none GG gr_d1 | exact GG) gx; (try have pa := pa.keep0 KP); (try have pb := pb.keep0 KP); clear KP; obtain ⟨⟨cx0, cx1, cx2⟩, ⟨cx3, cx4, cx5⟩, ⟨cx6, cx7, cx8⟩, cxf⟩ := CELLS.out wx GG; have cxf0 := cxf 0; have cxf1 := cxf 1; have cxf2 := cxf 2; clear cxf))
    all_goals (go_wp2_with fail; go_meet; exact ⟨(by first | exact gr_none GG (gr_d _) | exact gr_none GG gr_d1 | exact GG), ⟨_, _, _, rfl⟩, by rw [EG.out]; exact px.keep0 (by first | exact gr_d _ | exact gr_d1 | exact gr_refl _ _)⟩)
  case rest =>
    clear GG s0 s1 s2 t0 t1 t2 r0 r1 r2
    obtain ⟨GG, ⟨ho, hl5, hc, rfl⟩, S5⟩ := hcut.out
    clear hcut
    obtain ⟨⟨s0, s1, s2⟩, ⟨s3, s4, s5⟩, ⟨s6, s7, s8⟩, sf⟩ := CELLS.out wc GG
    clear sf
    go_wp2
    go_region_held3 (fun w' => w'.cell? ⟨w.heap.size, 0, none⟩ = some (.bool b1) ∧ w'.cell? ⟨w.heap.size, 1, none⟩ = some (.slice uo ul uc) ∧ w'.cell? ⟨w.heap.size, 2, none⟩ = some (.slice do_ dl dc) ∧ w'.cell? ⟨w.heap.size + 1, 0, none⟩ = some (.bool b2) ∧ w'.cell? ⟨w.heap.size + 1, 1, none⟩ = some (.slice vo vl vc) ∧ w'.cell? ⟨w.heap.size + 1, 2, none⟩ = some (.slice eo el ec)) (go_keep)
      (first | (go_at_call_of 121 (Value.agg #[.bool b1, .slice uo ul uc, .slice do_ dl dc]); refine (bar_at _ b1 n1 d1 L1 _ (HX.out.keep0 (gr_none GW.out (by first | exact gr_none GG (gr_d _) | exact gr_none GG gr_d1 | exact GG)))).mono ?_; rintro e wa ⟨va, rfl, pa, ga⟩; obtain ⟨ao, al, ac, rfl, _, _, _⟩ := pa.shape; have KP := gr_none (by first | exact gr_d _ | exact gr_d1 | exact gr_refl _ _) ga; have GG : W.grownBy wa none := gr_none (by first | exact gr_none GG (gr_d _) | exact gr_none GG gr_d1 | exact GG) ga; (try have pb := pb.keep0 KP); (try have pg := pg.keep0 KP); (try have po := po.keep0 KP); (try have pt := pt.keep0 KP); (try have S5 := S5.keep0 KP); clear KP; obtain ⟨⟨ca0, ca1, ca2⟩, ⟨ca3, ca4, ca5⟩, ⟨ca6, ca7, ca8⟩, caf⟩ := CELLS.out wa GG; have caf0 := caf 0; have caf1 := caf 1; have caf2 := caf 2; clear caf) | (go_at_call_of 121 (Value.agg #[.bool b2, .slice vo vl vc, .slice eo el ec]); refine (bar_at _ b2 n2 d2 L2 _ (HY.out.keep0 (gr_none GW.out (by first | exact gr_none GG (gr_d _) | exact gr_none GG gr_d1 | exact GG)))).mono ?_; rintro e wb ⟨vb, rfl, pb, gb⟩; obtain ⟨bo, bl, bc, rfl, _, _, _⟩ := pb.shape; have KP := gr_none (by first | exact gr_d _ | exact gr_d1 | exact gr_refl _ _) gb; have GG : W.grownBy wb none := gr_none (by first | exact gr_none GG (gr_d _) | exact gr_none GG gr_d1 | exact GG) gb; (try have pa := pa.keep0 KP); (try have pg := pg.keep0 KP); (try have po := po.keep0 KP); (try have pt := pt.keep0 KP); (try have S5 := S5.keep0 KP); clear KP; obtain ⟨⟨cb0, cb1, cb2⟩, ⟨cb3, cb4, cb5⟩, ⟨cb6, cb7, cb8⟩, cbf⟩ := CELLS.out wb GG; have cbf0 := cbf 0; have cbf1 := cbf 1; have cbf2 := cbf 2; clear cbf) | (go_at_call 124; refine (gcdz_num _ _ n1 n2 (L1 + L2 + 1) _ ((NX.out.keep0 (gr_none GW.out (by first | exact gr_none GG (gr_d _) | exact gr_none GG gr_d1 | exact GG))).mono (by omega)) ((NY.out.keep0 (gr_none GW.out (by first | exact gr_none GG (gr_d _) | exact gr_none GG gr_d1 | exact GG))).mono (by omega)) (by omega)).mono ?_; rintro e wg ⟨vg, rfl, pg, gg⟩; obtain ⟨go, gl, gc, rfl, _, _, _⟩ := pg.shape; have KP := gr_none (by first | exact gr_d _ | exact gr_d1 | exact gr_refl _ _) gg; have GG : W.grownBy wg none := gr_none (by first | exact gr_none GG (gr_d _) | exact gr_none GG gr_d1 | exact GG) gg; (try have pa := pa.keep0 KP); (try have pb := pb.keep0 KP); (try have po := po.keep0 KP); (try have pt := pt.keep0 KP); (try have S5 := S5.keep0 KP); clear KP; obtain ⟨⟨cg0, cg1, cg2⟩, ⟨cg3, cg4, cg5⟩, ⟨cg6, cg7, cg8⟩, cgf⟩ := CELLS.out wg GG; have cgf0 := cgf 0; have cgf1 := cgf 1; have cgf2 := cgf 2; clear cgf) | (go_at_call 125; refine (over_at _ _ d2 G (L1 + L2 + 1) _ ((pb.keep0 (by first | exact gr_d _ | exact gr_d1 | exact gr_refl _ _)).mono (by omega)) (S5.keep0 (by first | exact gr_d _ | exact gr_d1 | exact gr_refl _ _)) hG (by omega)).mono ?_; rintro e wov ⟨vov, rfl, po, gov⟩; obtain ⟨ovo, ovl, ovc, rfl, _, _, _⟩ := po.shape; have KP := gr_none (by first | exact gr_d _ | exact gr_d1 | exact gr_refl _ _) gov; have GG : W.grownBy wov none := gr_none (by first | exact gr_none GG (gr_d _) | exact gr_none GG gr_d1 | exact GG) gov; (try have pa := pa.keep0 KP); (try have pb := pb.keep0 KP); (try have pg := pg.keep0 KP); (try have pt := pt.keep0 KP); (try have S5 := S5.keep0 KP); clear KP; obtain ⟨⟨cov0, cov1, cov2⟩, ⟨cov3, cov4, cov5⟩, ⟨cov6, cov7, cov8⟩, covf⟩ := CELLS.out wov GG; have covf0 := covf 0; have covf1 := covf 1; have covf2 := covf 2; clear covf) | (go_at_call 123; refine (times_num _ _ d1 (d2 / G) (L1 + 1) (L2 + 1) _ (pa.keep0 (by first | exact gr_d _ | exact gr_d1 | exact gr_refl _ _)) ((po.keep0 (by first | exact gr_d _ | exact gr_d1 | exact gr_refl _ _)).tight hY1) (by omega)).mono ?_; rintro e wtm ⟨vtm, rfl, pt, gtm, _⟩; obtain ⟨tmo, tml, tmc, rfl, _, _, _⟩ := pt.shape; have KP := gr_none (by first | exact gr_d _ | exact gr_d1 | exact gr_refl _ _) gtm; have GG : W.grownBy wtm none := gr_none (by first | exact gr_none GG (gr_d _) | exact gr_none GG gr_d1 | exact GG) gtm; (try have pa := pa.keep0 KP); (try have pb := pb.keep0 KP); (try have pg := pg.keep0 KP); (try have po := po.keep0 KP); (try have S5 := S5.keep0 KP); clear KP; obtain ⟨⟨ctm0, ctm1, ctm2⟩, ⟨ctm3, ctm4, ctm5⟩, ⟨ctm6, ctm7, ctm8⟩, ctmf⟩ := CELLS.out wtm GG; have ctmf0 := ctmf 0; have ctmf1 := ctmf 1; have ctmf2 := ctmf 2; clear ctmf) | (go_at_call 120; refine (barred_at false _ _ (Nat.gcd n1 n2) (d1 * (d2 / G)) (L1 + L2 + 2) _ ((pg.keep0 (by first | exact gr_d _ | exact gr_d1 | exact gr_refl _ _)).mono (by omega)) ((pt.keep0 (by first | exact gr_d _ | exact gr_d1 | exact gr_refl _ _)).mono (by omega)) hV0 HCOP.out).mono ?_; rintro e wf ⟨v6, rfl, f1, f2⟩; obtain ⟨fo, fl, fc, fo2, fl2, fc2, rfl⟩ := f1.shape; have GG : W.grownBy wf none := gr_none (by first | exact gr_none GG (gr_d _) | exact gr_none GG gr_d1 | exact GG) f2; obtain ⟨⟨g0, g1, g2⟩, ⟨g3, g4, g5⟩, ⟨g6, g7, g8⟩, gf⟩ := CELLS.out wf GG; have gf0 := gf 0; have gf1 := gf 1; have gf2 := gf 2; clear gf))
    all_goals
      have F1 := hide f1
      have HGd := hide GG
      clear f1 f2
      go_wp2
      refine bodyPost_ret (v := .agg #[.bool (lowQ false (Nat.gcd n1 n2) (d1 * (d2 / G))).1, .slice fo fl fc, .slice fo2 fl2 fc2]) (by first | (simp [results, Tryz.results97, go_sem, g6, g7, g8]; done) | (simp [results, Tryz.results97, go_sem, g6, g7, g8]; rfl)) rfl ?_
      exact ⟨_, rfl, F1.out.other (NW.out wf HGd.out) gr_three, gr_set (gr_set (gr_set (gr_none GW.out HGd.out) _ _ (by simp; omega)) _ _ (by simp; omega)) _ _ (by simp; omega)⟩
def cmnQ (x y : Rat) : Rat := mkRat (Nat.gcd (rN x) (rN y) : Nat) (Nat.lcm x.den y.den)
theorem qcommon_at (x y : Value) (p q : Rat) (L1 L2 : Nat) (w : World) (hx : FQ w x p L1) (hy : FQ w y q L2) (hl : L1 + L2 ≤ 4000000000000) :
    Calls Tryz.prog 97 #[x, y] w fun e w' => FQE w (cmnQ p q) (L1 + L2 + 2) e w' := by
  obtain ⟨uo, ul, uc, do_, dl, dc, rfl⟩ := hx.shape
  obtain ⟨vo, vl, vc, eo, el, ec, rfl⟩ := hy.shape
  refine (fcommon_at uo vo do_ eo ul uc vl vc dl dc el ec _ _ _ _ L1 _ _ L2 w hx hy hl).mono ?_
  intro e w' h
  exact LowE.q (by unfold cmnQ sgq; simp) h
end Go.Proofs.YtklkpkkjakllfaaGreatDoor
