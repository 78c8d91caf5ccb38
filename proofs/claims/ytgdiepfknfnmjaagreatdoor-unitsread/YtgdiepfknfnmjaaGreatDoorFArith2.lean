/- frac: Times. -/
import Derived.Test.YtgdiepfknfnmjaaGreatDoorMFc
import Derived.Deep.DeepCutAuto
namespace Go.Proofs.YtgdiepfknfnmjaaGreatDoor
open Go.RowKit
set_option linter.unusedVariables false
set_option linter.unusedSimpArgs false

theorem gr_d1 {w : World} : w.grownBy w.drew none := gr_drewN (gr_refl _ _) 1

theorem Num.lt {w : World} {v : Value} {n L : Nat} (h : Num w v n L) : n < 4294967296 ^ L := by
  obtain ⟨xs, h1, h2, h3, h4⟩ := h
  rw [← h3]
  exact Nat.lt_of_lt_of_le (val_lt h1.sm) (Nat.pow_le_pow_right (by decide) h4)

theorem FV.down_le {w : World} {v : Value} {b : Bool} {n d L : Nat} (h : FV w v b n d L) : 0 < d ∧ d ≤ 4294967296 ^ L := by
  obtain ⟨up, down, _, _, h2, _, _⟩ := h
  rcases h2 with ⟨_, rfl⟩ | ⟨h2, h3⟩
  · exact ⟨by decide, Nat.pow_pos (by decide)⟩
  · exact ⟨by omega, Nat.le_of_lt h2.lt⟩

theorem FV.cop {w : World} {v : Value} {b : Bool} {n d L : Nat} (h : FV w v b n d L) : Nat.gcd n d = 1 := by
  obtain ⟨up, down, _, _, _, h, _⟩ := h
  exact h

theorem pow_up {n L : Nat} (h : n ≤ 4294967296 ^ L) : n < 4294967296 ^ (L + 1) := by
  have := (Nat.pow_lt_pow_iff_right (a := 4294967296) (by decide)).2 (Nat.lt_succ_self L)
  exact Nat.lt_of_le_of_lt h this

set_option maxHeartbeats 4000000 in
set_option maxRecDepth 10000 in
/-- Two whole numbers. -/
theorem fTimes_whole (uo vo : Option Addr) (ul uc vl vc : Nat) (b1 b2 : Bool) (n1 L1 n2 L2 : Nat) (w : World) (hx : Num w (.slice uo ul uc) n1 L1) (hy : Num w (.slice vo vl vc) n2 L2) (hl : L1 + L2 ≤ 700000000) :
    Calls Tryz.prog 18 #[.agg #[.bool b1, .slice uo ul uc, .slice none 0 0], .agg #[.bool b2, .slice vo vl vc, .slice none 0 0]] w fun e w' => LowE w (lowQ (b1 != b2) (n1 * n2) 1).1 (lowQ (b1 != b2) (n1 * n2) 1).2.1 (lowQ (b1 != b2) (n1 * n2) 1).2.2 (L1 + L2 + 1) e w' := by
  have NX := hide hx
  have NY := hide hy
  clear hx hy
  obtain ⟨W, hW⟩ : ∃ W, W = ((w.alloc (Obj.cells #[.bool b1, .slice uo ul uc, .slice none 0 0] 45)).alloc (Obj.cells #[.bool b2, .slice vo vl vc, .slice none 0 0] 45)).alloc (Obj.cells #[.bool false, .slice none 0 0, .slice none 0 0] 45) := ⟨_, rfl⟩
  have GW : Hid (w.grownBy W none) := by rw [hW]; exact gr_alloc (gr_alloc (gr_alloc (gr_refl _ _) _) _) _
  have NW : Hid (∀ wx, W.grownBy wx none → NoWords wx (w.heap.size + 1 + 1)) := by
    intro wx hg
    rw [hW] at hg
    have := noWords_res hg
    simpa using this
  have CELLS : Hid (∀ wx, W.grownBy wx none → (wx.cell? ⟨w.heap.size, 0, none⟩ = some (.bool b1) ∧ wx.cell? ⟨w.heap.size, 1, none⟩ = some (.slice uo ul uc) ∧ wx.cell? ⟨w.heap.size, 2, none⟩ = some (.slice none 0 0)) ∧ (wx.cell? ⟨w.heap.size + 1, 0, none⟩ = some (.bool b2) ∧ wx.cell? ⟨w.heap.size + 1, 1, none⟩ = some (.slice vo vl vc) ∧ wx.cell? ⟨w.heap.size + 1, 2, none⟩ = some (.slice none 0 0)) ∧ (wx.cell? ⟨w.heap.size + 1 + 1, 0, none⟩ = some (.bool false) ∧ wx.cell? ⟨w.heap.size + 1 + 1, 1, none⟩ = some (.slice none 0 0) ∧ wx.cell? ⟨w.heap.size + 1 + 1, 2, none⟩ = some (.slice none 0 0)) ∧ ∀ i, wx.frozen? ⟨w.heap.size + 1 + 1, i, none⟩ = false) := by
    intro wx hg
    rw [hW] at hg
    have a1 := box_three (gr_none (gr_alloc (gr_alloc (gr_refl _ none) _) _) hg)
    have a2 := box_three (w := w.alloc (Obj.cells #[.bool b1, .slice uo ul uc, .slice none 0 0] 45)) (gr_none (gr_alloc (gr_refl _ none) _) hg)
    have a3 := res_cells hg
    have e3 : ((w.alloc (Obj.cells #[.bool b1, .slice uo ul uc, .slice none 0 0] 45)).alloc (Obj.cells #[.bool b2, .slice vo vl vc, .slice none 0 0] 45)).heap.size = w.heap.size + 1 + 1 := by simp
    rw [e3] at a3
    refine ⟨a1, by simpa using a2, ?_, ?_⟩
    · exact ⟨a3.1, a3.2.1, a3.2.2.1⟩
    · exact a3.2.2.2
  obtain ⟨⟨s0, s1, s2⟩, ⟨t0, t1, t2⟩, ⟨r0, r1, r2⟩, rf⟩ := CELLS.out W (gr_refl _ _)
  clear rf
  have hne1 : ¬ w.heap.size + 1 + 1 = w.heap.size := by omega
  have hne2 : ¬ w.heap.size = w.heap.size + 1 + 1 := by omega
  have hne3 : ¬ w.heap.size + 1 + 1 = w.heap.size + 1 := by omega
  go_enter Tryz.func18, Tryz.ntmps18
  go_wp2_with fail
  rw [← hW]
  clear hW
  refine (isWhole_yes _ _ _ _ _).mono ?_
  rintro e w1 ⟨rfl, g1⟩
  have G1 := hide g1
  obtain ⟨⟨a0, a1, a2⟩, ⟨a3, a4, a5⟩, _⟩ := CELLS.out w1 g1
  clear g1
  go_wp2_with fail
  refine (isWhole_yes _ _ _ _ _).mono ?_
  rintro e w2 ⟨rfl, g2⟩
  have G2 := hide (gr_none G1.out g2)
  obtain ⟨⟨c0, c1, c2⟩, ⟨c3, c4, c5⟩, _⟩ := CELLS.out w2 G2.out
  clear g2
  go_wp2_with fail
  refine (times_num _ _ n1 n2 L1 L2 _ (NX.out.keep0 (gr_none GW.out G2.out)) (NY.out.keep0 (gr_none GW.out G2.out)) (by omega)).mono ?_
  rintro e w3 ⟨v3, rfl, p1, p2, p3⟩
  obtain ⟨xo, xl, xc, rfl, _, _, _⟩ := p1.shape
  have P1 := hide p1
  have G3 := hide (gr_none G2.out p2)
  clear p1 p2 p3
  go_wp2_with fail
  have ga : w3.grownBy (w3.alloc (Obj.cells #[Value.int IntKind.u32 1] 96)) none := gr_alloc (gr_refl _ _) _
  have GA := hide (gr_none G3.out ga)
  have P2 := hide (P1.out.keep0 ga)
  clear ga
  refine (barred_at _ _ _ (n1 * n2) 1 (L1 + L2 + 1) _ (P2.out.mono (by omega)) ((num_one w3).mono (by omega)) (by decide) (.inr (Nat.gcd_one_right _))).mono ?_
  rintro e wf ⟨v6, rfl, f1, f2⟩
  obtain ⟨fo, fl, fc, fo2, fl2, fc2, rfl⟩ := f1.shape
  have F1 := hide f1
  have GF := hide (gr_none GA.out f2)
  clear f1 f2
  obtain ⟨⟨g0, g1, g2⟩, ⟨g3, g4, g5⟩, ⟨g6, g7, g8⟩, gf⟩ := CELLS.out wf GF.out
  have gf0 := gf 0
  have gf1 := gf 1
  have gf2 := gf 2
  clear gf
  go_wp2
  refine bodyPost_ret (v := .agg #[.bool (lowQ (b1 != b2) (n1 * n2) 1).1, .slice fo fl fc, .slice fo2 fl2 fc2]) (by first | (simp [results, Tryz.results18, go_sem, g6, g7, g8]; done) | (simp [results, Tryz.results18, go_sem, g6, g7, g8]; rfl)) rfl ?_
  exact ⟨_, rfl, F1.out.other (NW.out wf GF.out) gr_three, gr_set (gr_set (gr_set (gr_none GW.out GF.out) _ _ (by simp; omega)) _ _ (by simp; omega)) _ _ (by simp; omega)⟩

set_option maxHeartbeats 8000000 in
set_option maxRecDepth 10000 in
/-- One of them at least isn't whole. -/
theorem fTimes_part (uo vo do_ eo : Option Addr) (ul uc vl vc dl dc el ec : Nat) (b1 b2 : Bool) (n1 d1 L1 n2 d2 L2 : Nat) (w : World) (hx : FV w (.agg #[.bool b1, .slice uo ul uc, .slice do_ dl dc]) b1 n1 d1 L1) (hy : FV w (.agg #[.bool b2, .slice vo vl vc, .slice eo el ec]) b2 n2 d2 L2) (hl : L1 + L2 ≤ 700000000)
    (hwh : ∀ wx : World, (Calls Tryz.prog 61 #[.agg #[.bool b1, .slice uo ul uc, .slice do_ dl dc]] wx fun e w' => e = .returned (.bool false) ∧ wx.grownBy w' none) ∨ ((Calls Tryz.prog 61 #[.agg #[.bool b1, .slice uo ul uc, .slice do_ dl dc]] wx fun e w' => e = .returned (.bool true) ∧ wx.grownBy w' none) ∧ ∀ wx : World, Calls Tryz.prog 61 #[.agg #[.bool b2, .slice vo vl vc, .slice eo el ec]] wx fun e w' => e = .returned (.bool false) ∧ wx.grownBy w' none)) :
    Calls Tryz.prog 18 #[.agg #[.bool b1, .slice uo ul uc, .slice do_ dl dc], .agg #[.bool b2, .slice vo vl vc, .slice eo el ec]] w fun e w' => LowE w (lowQ (b1 != b2) (n1 * n2) (d1 * d2)).1 (lowQ (b1 != b2) (n1 * n2) (d1 * d2)).2.1 (lowQ (b1 != b2) (n1 * n2) (d1 * d2)).2.2 (L1 + L2 + 1) e w' := by
  have HX := hide hx
  have HY := hide hy
  obtain ⟨hd1, hd1L⟩ := hx.down_le
  obtain ⟨hd2, hd2L⟩ := hy.down_le
  have hc1 := hx.cop
  have hc2 := hy.cop
  have NX : Hid (Num w (.slice uo ul uc) n1 L1) := by
    obtain ⟨up, down, e, h1, _⟩ := hx
    simp only [Value.agg.injEq, Array.mk.injEq, List.cons.injEq, and_true, true_and] at e
    rw [e.1]; exact h1
  have NY : Hid (Num w (.slice vo vl vc) n2 L2) := by
    obtain ⟨up, down, e, h1, _⟩ := hy
    simp only [Value.agg.injEq, Array.mk.injEq, List.cons.injEq, and_true, true_and] at e
    rw [e.1]; exact h1
  clear hx hy
  obtain ⟨G1, hG1⟩ : ∃ G, G = Nat.gcd n1 d2 := ⟨_, rfl⟩
  obtain ⟨G2, hG2⟩ : ∃ G, G = Nat.gcd n2 d1 := ⟨_, rfl⟩
  have hg1 : 0 < G1 := by rw [hG1]; exact Nat.gcd_pos_of_pos_right _ hd2
  have hg2 : 0 < G2 := by rw [hG2]; exact Nat.gcd_pos_of_pos_right _ hd1
  obtain ⟨X1, eX1⟩ : ∃ X, X = n1 / G1 := ⟨_, rfl⟩
  obtain ⟨X2, eX2⟩ : ∃ X, X = n2 / G2 := ⟨_, rfl⟩
  obtain ⟨Y1, eY1⟩ : ∃ X, X = d1 / G2 := ⟨_, rfl⟩
  obtain ⟨Y2, eY2⟩ : ∃ X, X = d2 / G1 := ⟨_, rfl⟩
  have hX1 : X1 < 4294967296 ^ L1 := by rw [eX1]; exact Nat.lt_of_le_of_lt (Nat.div_le_self _ _) NX.out.lt
  have hX2 : X2 < 4294967296 ^ L2 := by rw [eX2]; exact Nat.lt_of_le_of_lt (Nat.div_le_self _ _) NY.out.lt
  have hY1 : Y1 < 4294967296 ^ (L1 + 1) := by rw [eY1]; exact pow_up (Nat.le_trans (Nat.div_le_self _ _) hd1L)
  have hY2 : Y2 < 4294967296 ^ (L2 + 1) := by rw [eY2]; exact pow_up (Nat.le_trans (Nat.div_le_self _ _) hd2L)
  have hYY : Y1 * Y2 < 4294967296 ^ (L1 + L2 + 1) := by
    refine pow_up ?_
    rw [Nat.pow_add, eY1, eY2]
    exact Nat.mul_le_mul (Nat.le_trans (Nat.div_le_self _ _) hd1L) (Nat.le_trans (Nat.div_le_self _ _) hd2L)
  have hY0 : 0 < Y1 * Y2 := by
    rw [eY1, eY2, hG1, hG2]
    exact Nat.mul_pos (Nat.div_pos (Nat.gcd_le_right _ hd1) (Nat.gcd_pos_of_pos_right _ hd1)) (Nat.div_pos (Nat.gcd_le_right _ hd2) (Nat.gcd_pos_of_pos_right _ hd2))
  have HCOP : Hid (X1 * X2 = 0 ∨ Nat.gcd (X1 * X2) (Y1 * Y2) = 1) := .inr (by rw [eX1, eX2, eY1, eY2, hG1, hG2]; exact cross_cop hc1 hc2 hd1 hd2)
  have HQ : Hid (lowQ (b1 != b2) (X1 * X2) (Y1 * Y2) = lowQ (b1 != b2) (n1 * n2) (d1 * d2)) := by show _ = _; rw [eX1, eX2, eY1, eY2, hG1, hG2]; exact cross_low _ hd1 hd2
  have EX1 := hide eX1
  have EX2 := hide eX2
  have EY1 := hide eY1
  have EY2 := hide eY2
  have EG1 := hide hG1
  have EG2 := hide hG2
  rw [← HQ.out]
  clear HQ eX1 eX2 eY1 eY2 hG1 hG2 hc1 hc2 hd1L hd2L
  obtain ⟨W, hW⟩ : ∃ W, W = ((w.alloc (Obj.cells #[.bool b1, .slice uo ul uc, .slice do_ dl dc] 45)).alloc (Obj.cells #[.bool b2, .slice vo vl vc, .slice eo el ec] 45)).alloc (Obj.cells #[.bool false, .slice none 0 0, .slice none 0 0] 45) := ⟨_, rfl⟩
  have GW : Hid (w.grownBy W none) := by rw [hW]; exact gr_alloc (gr_alloc (gr_alloc (gr_refl _ _) _) _) _
  have NW : Hid (∀ wx, W.grownBy wx none → NoWords wx (w.heap.size + 1 + 1)) := by
    intro wx hg
    rw [hW] at hg
    have := noWords_res hg
    simpa using this
  have CELLS : Hid (∀ wx, W.grownBy wx none → (wx.cell? ⟨w.heap.size, 0, none⟩ = some (.bool b1) ∧ wx.cell? ⟨w.heap.size, 1, none⟩ = some (.slice uo ul uc) ∧ wx.cell? ⟨w.heap.size, 2, none⟩ = some (.slice do_ dl dc)) ∧ (wx.cell? ⟨w.heap.size + 1, 0, none⟩ = some (.bool b2) ∧ wx.cell? ⟨w.heap.size + 1, 1, none⟩ = some (.slice vo vl vc) ∧ wx.cell? ⟨w.heap.size + 1, 2, none⟩ = some (.slice eo el ec)) ∧ (wx.cell? ⟨w.heap.size + 1 + 1, 0, none⟩ = some (.bool false) ∧ wx.cell? ⟨w.heap.size + 1 + 1, 1, none⟩ = some (.slice none 0 0) ∧ wx.cell? ⟨w.heap.size + 1 + 1, 2, none⟩ = some (.slice none 0 0)) ∧ ∀ i, wx.frozen? ⟨w.heap.size + 1 + 1, i, none⟩ = false) := by
    intro wx hg
    rw [hW] at hg
    have a1 := box_three (gr_none (gr_alloc (gr_alloc (gr_refl _ none) _) _) hg)
    have a2 := box_three (w := w.alloc (Obj.cells #[.bool b1, .slice uo ul uc, .slice do_ dl dc] 45)) (gr_none (gr_alloc (gr_refl _ none) _) hg)
    have a3 := res_cells hg
    have e3 : ((w.alloc (Obj.cells #[.bool b1, .slice uo ul uc, .slice do_ dl dc] 45)).alloc (Obj.cells #[.bool b2, .slice vo vl vc, .slice eo el ec] 45)).heap.size = w.heap.size + 1 + 1 := by simp
    rw [e3] at a3
    refine ⟨a1, by simpa using a2, ?_, ?_⟩
    · exact ⟨a3.1, a3.2.1, a3.2.2.1⟩
    · exact a3.2.2.2
  obtain ⟨⟨s0, s1, s2⟩, ⟨t0, t1, t2⟩, ⟨r0, r1, r2⟩, rf⟩ := CELLS.out W (gr_refl _ _)
  clear rf
  have hne1 : ¬ w.heap.size + 1 + 1 = w.heap.size := by omega
  have hne2 : ¬ w.heap.size = w.heap.size + 1 + 1 := by omega
  have hne3 : ¬ w.heap.size + 1 + 1 = w.heap.size + 1 := by omega
  have HWH := hide hwh
  clear hwh
  go_enter Tryz.func18, Tryz.ntmps18
  go_upto_region 2 with fail
  rw [← hW]
  clear hW
  go_cut [19] (fun s19 wx => Hid (s19 = .bool false ∧ W.grownBy wx none))
  case first =>
    go_wp2_with fail
    rcases HWH.out W with h | ⟨h, h2⟩
    · refine h.mono ?_
      rintro e w1 ⟨rfl, g1⟩
      go_wp2_with fail
      go_meet
      exact ⟨rfl, g1⟩
    · refine h.mono ?_
      rintro e w1 ⟨rfl, g1⟩
      obtain ⟨⟨a0, a1, a2⟩, ⟨a3, a4, a5⟩, _⟩ := CELLS.out w1 g1
      go_wp2_with fail
      refine (h2 _).mono ?_
      rintro e w2 ⟨rfl, g2⟩
      go_wp2_with fail
      go_meet
      exact ⟨rfl, gr_none g1 g2⟩
  case rest =>
    obtain ⟨rfl, GG⟩ := hcut.out
    clear hcut s0 s1 s2 t0 t1 t2 r0 r1 r2
    obtain ⟨⟨s0, s1, s2⟩, ⟨s3, s4, s5⟩, _⟩ := CELLS.out wc GG
    go_wp2
    go_cut [6, 7] (fun s6 s7 wx => Hid (W.grownBy wx none ∧ (∃ o l c, s6 = .slice o l c) ∧ (∃ o l c, s7 = .slice o l c) ∧ Num wx s6 G1 (L1 + L2 + 1) ∧ Num wx s7 G2 (L1 + L2 + 1)))
    case first =>
      go_region_held3 (fun w' => w'.cell? ⟨w.heap.size, 0, none⟩ = some (.bool b1) ∧ w'.cell? ⟨w.heap.size, 1, none⟩ = some (.slice uo ul uc) ∧ w'.cell? ⟨w.heap.size, 2, none⟩ = some (.slice do_ dl dc) ∧ w'.cell? ⟨w.heap.size + 1, 0, none⟩ = some (.bool b2) ∧ w'.cell? ⟨w.heap.size + 1, 1, none⟩ = some (.slice vo vl vc) ∧ w'.cell? ⟨w.heap.size + 1, 2, none⟩ = some (.slice eo el ec)) (go_keep)
        (first | (go_at_call_of 65 (Value.agg #[.bool b2, .slice vo vl vc, .slice eo el ec]); refine (bar_at _ b2 n2 d2 L2 _ (HY.out.keep0 (gr_none GW.out (by first | exact gr_none GG (gr_d _) | exact gr_none GG gr_d1 | exact GG)))).mono ?_; rintro e wa ⟨va, rfl, pa, ga⟩; obtain ⟨pao, pal, pac, rfl, _, _, _⟩ := pa.shape; have KP := gr_none (by first | exact gr_d _ | exact gr_d1 | exact gr_refl _ _) ga; have GG : W.grownBy wa none := gr_none (by first | exact gr_none GG (gr_d _) | exact gr_none GG gr_d1 | exact GG) ga; (try have pb := pb.keep0 KP); (try have pc := pc.keep0 KP); (try have pd := pd.keep0 KP); clear KP; obtain ⟨⟨ca0, ca1, ca2⟩, ⟨ca3, ca4, ca5⟩, ⟨ca6, ca7, ca8⟩, caf⟩ := CELLS.out wa GG; have caf0 := caf 0; have caf1 := caf 1; have caf2 := caf 2; clear caf) | (go_at_call_of 64 (Value.slice uo ul uc); refine (gcd_num _ _ n1 d2 (L1 + L2 + 1) _ ((NX.out.keep0 (gr_none GW.out (by first | exact gr_none GG (gr_d _) | exact gr_none GG gr_d1 | exact GG))).mono (by omega)) ((pa.keep0 (by first | exact gr_d _ | exact gr_d1 | exact gr_refl _ _)).mono (by omega)) (.inr hd2) (by omega)).mono ?_; rintro e wb ⟨vb, rfl, pb, gb⟩; rw [← EG1.out] at pb; obtain ⟨pbo, pbl, pbc, rfl, _, _, _⟩ := pb.shape; have KP := gr_none (by first | exact gr_d _ | exact gr_d1 | exact gr_refl _ _) gb; have GG : W.grownBy wb none := gr_none (by first | exact gr_none GG (gr_d _) | exact gr_none GG gr_d1 | exact GG) gb; (try have pa := pa.keep0 KP); (try have pc := pc.keep0 KP); (try have pd := pd.keep0 KP); clear KP; obtain ⟨⟨cb0, cb1, cb2⟩, ⟨cb3, cb4, cb5⟩, ⟨cb6, cb7, cb8⟩, cbf⟩ := CELLS.out wb GG; have cbf0 := cbf 0; have cbf1 := cbf 1; have cbf2 := cbf 2; clear cbf) | (go_at_call_of 65 (Value.agg #[.bool b1, .slice uo ul uc, .slice do_ dl dc]); refine (bar_at _ b1 n1 d1 L1 _ (HX.out.keep0 (gr_none GW.out (by first | exact gr_none GG (gr_d _) | exact gr_none GG gr_d1 | exact GG)))).mono ?_; rintro e wc2 ⟨vc2, rfl, pc, gc⟩; obtain ⟨pco, pcl, pcc, rfl, _, _, _⟩ := pc.shape; have KP := gr_none (by first | exact gr_d _ | exact gr_d1 | exact gr_refl _ _) gc; have GG : W.grownBy wc2 none := gr_none (by first | exact gr_none GG (gr_d _) | exact gr_none GG gr_d1 | exact GG) gc; (try have pa := pa.keep0 KP); (try have pb := pb.keep0 KP); (try have pd := pd.keep0 KP); clear KP; obtain ⟨⟨cc0, cc1, cc2⟩, ⟨cc3, cc4, cc5⟩, ⟨cc6, cc7, cc8⟩, ccf⟩ := CELLS.out wc2 GG; have ccf0 := ccf 0; have ccf1 := ccf 1; have ccf2 := ccf 2; clear ccf) | (go_at_call_of 64 (Value.slice vo vl vc); refine (gcd_num _ _ n2 d1 (L1 + L2 + 1) _ ((NY.out.keep0 (gr_none GW.out (by first | exact gr_none GG (gr_d _) | exact gr_none GG gr_d1 | exact GG))).mono (by omega)) ((pc.keep0 (by first | exact gr_d _ | exact gr_d1 | exact gr_refl _ _)).mono (by omega)) (.inr hd1) (by omega)).mono ?_; rintro e wd ⟨vd, rfl, pd, gd⟩; rw [← EG2.out] at pd; obtain ⟨pdo, pdl, pdc, rfl, _, _, _⟩ := pd.shape; have KP := gr_none (by first | exact gr_d _ | exact gr_d1 | exact gr_refl _ _) gd; have GG : W.grownBy wd none := gr_none (by first | exact gr_none GG (gr_d _) | exact gr_none GG gr_d1 | exact GG) gd; (try have pa := pa.keep0 KP); (try have pb := pb.keep0 KP); (try have pc := pc.keep0 KP); clear KP; obtain ⟨⟨cd0, cd1, cd2⟩, ⟨cd3, cd4, cd5⟩, ⟨cd6, cd7, cd8⟩, cdf⟩ := CELLS.out wd GG; have cdf0 := cdf 0; have cdf1 := cdf 1; have cdf2 := cdf 2; clear cdf))
      all_goals (go_wp2_with fail; go_meet; exact ⟨(by first | exact gr_none GG (gr_d _) | exact gr_none GG gr_d1 | exact GG), ⟨_, _, _, rfl⟩, ⟨_, _, _, rfl⟩, pb.keep0 (by first | exact gr_d _ | exact gr_d1 | exact gr_refl _ _), pd.keep0 (by first | exact gr_d _ | exact gr_d1 | exact gr_refl _ _)⟩)
    case rest =>
      clear GG s0 s1 s2 s3 s4 s5
      obtain ⟨GG, ⟨go, gl, gc, rfl⟩, ⟨ho, hl9, hc, rfl⟩, S6, S7⟩ := hcut.out
      clear hcut
      obtain ⟨⟨s0, s1, s2⟩, ⟨s3, s4, s5⟩, _⟩ := CELLS.out wc GG
      go_wp2
      go_cut [8] (fun s8 wx => Hid (W.grownBy wx none ∧ (∃ o l c, s8 = .slice o l c) ∧ Num wx s8 (X1 * X2) (L1 + L2) ∧ Num wx (.slice go gl gc) G1 (L1 + L2 + 1) ∧ Num wx (.slice ho hl9 hc) G2 (L1 + L2 + 1)))
      case first =>
        go_region_held3 (fun w' => w'.cell? ⟨w.heap.size, 0, none⟩ = some (.bool b1) ∧ w'.cell? ⟨w.heap.size, 1, none⟩ = some (.slice uo ul uc) ∧ w'.cell? ⟨w.heap.size, 2, none⟩ = some (.slice do_ dl dc) ∧ w'.cell? ⟨w.heap.size + 1, 0, none⟩ = some (.bool b2) ∧ w'.cell? ⟨w.heap.size + 1, 1, none⟩ = some (.slice vo vl vc) ∧ w'.cell? ⟨w.heap.size + 1, 2, none⟩ = some (.slice eo el ec)) (go_keep)
          (first | (go_at_call_of 66 (Value.slice uo ul uc); refine (over_at _ _ n1 G1 (L1 + L2 + 1) _ ((NX.out.keep0 (gr_none GW.out (by first | exact gr_none GG (gr_d _) | exact gr_none GG gr_d1 | exact GG))).mono (by omega)) (S6.keep0 (by first | exact gr_d _ | exact gr_d1 | exact gr_refl _ _)) hg1 (by omega)).mono ?_; rintro e wa ⟨va, rfl, qa, ga⟩; rw [← EX1.out] at qa; obtain ⟨qao, qal, qac, rfl, _, _, _⟩ := qa.shape; have KP := gr_none (by first | exact gr_d _ | exact gr_d1 | exact gr_refl _ _) ga; have GG : W.grownBy wa none := gr_none (by first | exact gr_none GG (gr_d _) | exact gr_none GG gr_d1 | exact GG) ga; (try have qb := qb.keep0 KP); (try have qc := qc.keep0 KP); (try have S6 := S6.keep0 KP); (try have S7 := S7.keep0 KP); clear KP; obtain ⟨⟨ca0, ca1, ca2⟩, ⟨ca3, ca4, ca5⟩, ⟨ca6, ca7, ca8⟩, caf⟩ := CELLS.out wa GG; have caf0 := caf 0; have caf1 := caf 1; have caf2 := caf 2; clear caf) | (go_at_call_of 66 (Value.slice vo vl vc); refine (over_at _ _ n2 G2 (L1 + L2 + 1) _ ((NY.out.keep0 (gr_none GW.out (by first | exact gr_none GG (gr_d _) | exact gr_none GG gr_d1 | exact GG))).mono (by omega)) (S7.keep0 (by first | exact gr_d _ | exact gr_d1 | exact gr_refl _ _)) hg2 (by omega)).mono ?_; rintro e wb ⟨vb, rfl, qb, gb⟩; rw [← EX2.out] at qb; obtain ⟨qbo, qbl, qbc, rfl, _, _, _⟩ := qb.shape; have KP := gr_none (by first | exact gr_d _ | exact gr_d1 | exact gr_refl _ _) gb; have GG : W.grownBy wb none := gr_none (by first | exact gr_none GG (gr_d _) | exact gr_none GG gr_d1 | exact GG) gb; (try have qa := qa.keep0 KP); (try have qc := qc.keep0 KP); (try have S6 := S6.keep0 KP); (try have S7 := S7.keep0 KP); clear KP; obtain ⟨⟨cb0, cb1, cb2⟩, ⟨cb3, cb4, cb5⟩, ⟨cb6, cb7, cb8⟩, cbf⟩ := CELLS.out wb GG; have cbf0 := cbf 0; have cbf1 := cbf 1; have cbf2 := cbf 2; clear cbf) | (go_at_call 63; refine (times_num _ _ X1 X2 L1 L2 _ ((qa.keep0 (by first | exact gr_d _ | exact gr_d1 | exact gr_refl _ _)).tight hX1) ((qb.keep0 (by first | exact gr_d _ | exact gr_d1 | exact gr_refl _ _)).tight hX2) (by omega)).mono ?_; rintro e wc2 ⟨vc2, rfl, qc, gc, _⟩; obtain ⟨qco, qcl, qcc, rfl, _, _, _⟩ := qc.shape; have KP := gr_none (by first | exact gr_d _ | exact gr_d1 | exact gr_refl _ _) gc; have GG : W.grownBy wc2 none := gr_none (by first | exact gr_none GG (gr_d _) | exact gr_none GG gr_d1 | exact GG) gc; (try have qa := qa.keep0 KP); (try have qb := qb.keep0 KP); (try have S6 := S6.keep0 KP); (try have S7 := S7.keep0 KP); clear KP; obtain ⟨⟨cc0, cc1, cc2⟩, ⟨cc3, cc4, cc5⟩, ⟨cc6, cc7, cc8⟩, ccf⟩ := CELLS.out wc2 GG; have ccf0 := ccf 0; have ccf1 := ccf 1; have ccf2 := ccf 2; clear ccf))
        all_goals (go_wp2_with fail; go_meet; exact ⟨(by first | exact gr_none GG (gr_d _) | exact gr_none GG gr_d1 | exact GG), ⟨_, _, _, rfl⟩, qc.keep0 (by first | exact gr_d _ | exact gr_d1 | exact gr_refl _ _), S6.keep0 (by first | exact gr_d _ | exact gr_d1 | exact gr_refl _ _), S7.keep0 (by first | exact gr_d _ | exact gr_d1 | exact gr_refl _ _)⟩)
      case rest =>
        clear GG s0 s1 s2 s3 s4 s5 S6 S7
        obtain ⟨GG, ⟨io, il, ic, rfl⟩, S8, S6, S7⟩ := hcut.out
        clear hcut
        obtain ⟨⟨s0, s1, s2⟩, ⟨s3, s4, s5⟩, _⟩ := CELLS.out wc GG
        go_wp2
        go_region_held3 (fun w' => w'.cell? ⟨w.heap.size, 0, none⟩ = some (.bool b1) ∧ w'.cell? ⟨w.heap.size, 1, none⟩ = some (.slice uo ul uc) ∧ w'.cell? ⟨w.heap.size, 2, none⟩ = some (.slice do_ dl dc) ∧ w'.cell? ⟨w.heap.size + 1, 0, none⟩ = some (.bool b2) ∧ w'.cell? ⟨w.heap.size + 1, 1, none⟩ = some (.slice vo vl vc) ∧ w'.cell? ⟨w.heap.size + 1, 2, none⟩ = some (.slice eo el ec)) (go_keep)
          (first | (go_at_call_of 65 (Value.agg #[.bool b1, .slice uo ul uc, .slice do_ dl dc]); refine (bar_at _ b1 n1 d1 L1 _ (HX.out.keep0 (gr_none GW.out (by first | exact gr_none GG (gr_d _) | exact gr_none GG gr_d1 | exact GG)))).mono ?_; rintro e wa ⟨va, rfl, ra, ga⟩; obtain ⟨rao, ral, rac, rfl, _, _, _⟩ := ra.shape; have KP := gr_none (by first | exact gr_d _ | exact gr_d1 | exact gr_refl _ _) ga; have GG : W.grownBy wa none := gr_none (by first | exact gr_none GG (gr_d _) | exact gr_none GG gr_d1 | exact GG) ga; (try have rb := rb.keep0 KP); (try have rc := rc.keep0 KP); (try have rd := rd.keep0 KP); (try have re := re.keep0 KP); (try have S6 := S6.keep0 KP); (try have S7 := S7.keep0 KP); (try have S8 := S8.keep0 KP); clear KP; obtain ⟨⟨ca0, ca1, ca2⟩, ⟨ca3, ca4, ca5⟩, ⟨ca6, ca7, ca8⟩, caf⟩ := CELLS.out wa GG; have caf0 := caf 0; have caf1 := caf 1; have caf2 := caf 2; clear caf) | (go_at_call_of 66 (Value.slice ho hl9 hc); refine (over_at _ _ d1 G2 (L1 + L2 + 1) _ ((ra.keep0 (by first | exact gr_d _ | exact gr_d1 | exact gr_refl _ _)).mono (by omega)) (S7.keep0 (by first | exact gr_d _ | exact gr_d1 | exact gr_refl _ _)) hg2 (by omega)).mono ?_; rintro e wb ⟨vb, rfl, rb, gb⟩; rw [← EY1.out] at rb; obtain ⟨rbo, rbl, rbc, rfl, _, _, _⟩ := rb.shape; have KP := gr_none (by first | exact gr_d _ | exact gr_d1 | exact gr_refl _ _) gb; have GG : W.grownBy wb none := gr_none (by first | exact gr_none GG (gr_d _) | exact gr_none GG gr_d1 | exact GG) gb; (try have ra := ra.keep0 KP); (try have rc := rc.keep0 KP); (try have rd := rd.keep0 KP); (try have re := re.keep0 KP); (try have S6 := S6.keep0 KP); (try have S7 := S7.keep0 KP); (try have S8 := S8.keep0 KP); clear KP; obtain ⟨⟨cb0, cb1, cb2⟩, ⟨cb3, cb4, cb5⟩, ⟨cb6, cb7, cb8⟩, cbf⟩ := CELLS.out wb GG; have cbf0 := cbf 0; have cbf1 := cbf 1; have cbf2 := cbf 2; clear cbf) | (go_at_call_of 65 (Value.agg #[.bool b2, .slice vo vl vc, .slice eo el ec]); refine (bar_at _ b2 n2 d2 L2 _ (HY.out.keep0 (gr_none GW.out (by first | exact gr_none GG (gr_d _) | exact gr_none GG gr_d1 | exact GG)))).mono ?_; rintro e wc2 ⟨vc2, rfl, rc, gc2⟩; obtain ⟨rco, rcl, rcc, rfl, _, _, _⟩ := rc.shape; have KP := gr_none (by first | exact gr_d _ | exact gr_d1 | exact gr_refl _ _) gc2; have GG : W.grownBy wc2 none := gr_none (by first | exact gr_none GG (gr_d _) | exact gr_none GG gr_d1 | exact GG) gc2; (try have ra := ra.keep0 KP); (try have rb := rb.keep0 KP); (try have rd := rd.keep0 KP); (try have re := re.keep0 KP); (try have S6 := S6.keep0 KP); (try have S7 := S7.keep0 KP); (try have S8 := S8.keep0 KP); clear KP; obtain ⟨⟨cc0, cc1, cc2⟩, ⟨cc3, cc4, cc5⟩, ⟨cc6, cc7, cc8⟩, ccf⟩ := CELLS.out wc2 GG; have ccf0 := ccf 0; have ccf1 := ccf 1; have ccf2 := ccf 2; clear ccf) | (go_at_call_of 66 (Value.slice go gl gc); refine (over_at _ _ d2 G1 (L1 + L2 + 1) _ ((rc.keep0 (by first | exact gr_d _ | exact gr_d1 | exact gr_refl _ _)).mono (by omega)) (S6.keep0 (by first | exact gr_d _ | exact gr_d1 | exact gr_refl _ _)) hg1 (by omega)).mono ?_; rintro e wd ⟨vd, rfl, rd, gd⟩; rw [← EY2.out] at rd; obtain ⟨rdo, rdl, rdc, rfl, _, _, _⟩ := rd.shape; have KP := gr_none (by first | exact gr_d _ | exact gr_d1 | exact gr_refl _ _) gd; have GG : W.grownBy wd none := gr_none (by first | exact gr_none GG (gr_d _) | exact gr_none GG gr_d1 | exact GG) gd; (try have ra := ra.keep0 KP); (try have rb := rb.keep0 KP); (try have rc := rc.keep0 KP); (try have re := re.keep0 KP); (try have S6 := S6.keep0 KP); (try have S7 := S7.keep0 KP); (try have S8 := S8.keep0 KP); clear KP; obtain ⟨⟨cd0, cd1, cd2⟩, ⟨cd3, cd4, cd5⟩, ⟨cd6, cd7, cd8⟩, cdf⟩ := CELLS.out wd GG; have cdf0 := cdf 0; have cdf1 := cdf 1; have cdf2 := cdf 2; clear cdf) | (go_at_call 63; refine (times_num _ _ Y1 Y2 (L1 + 1) (L2 + 1) _ ((rb.keep0 (by first | exact gr_d _ | exact gr_d1 | exact gr_refl _ _)).tight hY1) ((rd.keep0 (by first | exact gr_d _ | exact gr_d1 | exact gr_refl _ _)).tight hY2) (by omega)).mono ?_; rintro e we ⟨ve, rfl, re, ge, _⟩; obtain ⟨reo, rel, rec, rfl, _, _, _⟩ := re.shape; have KP := gr_none (by first | exact gr_d _ | exact gr_d1 | exact gr_refl _ _) ge; have GG : W.grownBy we none := gr_none (by first | exact gr_none GG (gr_d _) | exact gr_none GG gr_d1 | exact GG) ge; (try have ra := ra.keep0 KP); (try have rb := rb.keep0 KP); (try have rc := rc.keep0 KP); (try have rd := rd.keep0 KP); (try have S6 := S6.keep0 KP); (try have S7 := S7.keep0 KP); (try have S8 := S8.keep0 KP); clear KP; obtain ⟨⟨ce0, ce1, ce2⟩, ⟨ce3, ce4, ce5⟩, ⟨ce6, ce7, ce8⟩, cef⟩ := CELLS.out we GG; have cef0 := cef 0; have cef1 := cef 1; have cef2 := cef 2; clear cef) | (go_at_call 62; refine (barred_at _ _ _ (X1 * X2) (Y1 * Y2) (L1 + L2 + 1) _ ((S8.keep0 (by first | exact gr_d _ | exact gr_d1 | exact gr_refl _ _)).mono (by omega)) ((re.keep0 (by first | exact gr_d _ | exact gr_d1 | exact gr_refl _ _)).tight hYY) hY0 HCOP.out).mono ?_; rintro e wf ⟨v6, rfl, f1, f2⟩; obtain ⟨fo, fl, fc, fo2, fl2, fc2, rfl⟩ := f1.shape; have GG : W.grownBy wf none := gr_none (by first | exact gr_none GG (gr_d _) | exact gr_none GG gr_d1 | exact GG) f2; obtain ⟨⟨g0, g1, g2⟩, ⟨g3, g4, g5⟩, ⟨g6, g7, g8⟩, gf⟩ := CELLS.out wf GG; have gf0 := gf 0; have gf1 := gf 1; have gf2 := gf 2; clear gf))
        all_goals
          have F1 := hide f1
          have HGd := hide GG
          clear f1 f2
          go_wp2
          refine bodyPost_ret (v := .agg #[.bool (lowQ (b1 != b2) (X1 * X2) (Y1 * Y2)).1, .slice fo fl fc, .slice fo2 fl2 fc2]) (by first | (simp [results, Tryz.results18, go_sem, g6, g7, g8]; done) | (simp [results, Tryz.results18, go_sem, g6, g7, g8]; rfl)) rfl ?_
          exact ⟨_, rfl, F1.out.other (NW.out wf HGd.out) gr_three, gr_set (gr_set (gr_set (gr_none GW.out HGd.out) _ _ (by simp; omega)) _ _ (by simp; omega)) _ _ (by simp; omega)⟩

theorem fTimes_at (x y : Value) (b1 b2 : Bool) (n1 d1 L1 n2 d2 L2 : Nat) (w : World) (hx : FV w x b1 n1 d1 L1) (hy : FV w y b2 n2 d2 L2) (hl : L1 + L2 ≤ 700000000) :
    Calls Tryz.prog 18 #[x, y] w fun e w' => LowE w (lowQ (b1 != b2) (n1 * n2) (d1 * d2)).1 (lowQ (b1 != b2) (n1 * n2) (d1 * d2)).2.1 (lowQ (b1 != b2) (n1 * n2) (d1 * d2)).2.2 (L1 + L2 + 1) e w' := by
  have HX := hx
  have HY := hy
  obtain ⟨up, down, rfl, h1, h2, h3, h4⟩ := hx
  obtain ⟨up2, down2, rfl, k1, k2, k3, k4⟩ := hy
  obtain ⟨uo, ul, uc, rfl, _⟩ := h1.shape
  obtain ⟨vo, vl, vc, rfl, _⟩ := k1.shape
  rcases h2 with ⟨rfl, rfl⟩ | ⟨h2, hd⟩
  · rcases k2 with ⟨rfl, rfl⟩ | ⟨k2, kd⟩
    · exact fTimes_whole uo vo ul uc vl vc b1 b2 n1 L1 n2 L2 w h1 k1 hl
    · obtain ⟨eo, el, ec, rfl, e1, e2, e3⟩ := k2.shape
      have hel : 0 < el := by
        rcases Nat.eq_zero_or_pos el with h | h
        · have := e1.1 h; omega
        · exact h
      exact fTimes_part uo vo none eo ul uc vl vc 0 0 el ec b1 b2 n1 1 L1 n2 d2 L2 w HX HY hl (fun wx => .inr ⟨isWhole_yes _ _ _ _ wx, fun wy => isWhole_no _ _ _ _ _ _ _ wy hel e2 e3⟩)
  · obtain ⟨do_, dl, dc, rfl, e1, e2, e3⟩ := h2.shape
    have hdl : 0 < dl := by
      rcases Nat.eq_zero_or_pos dl with h | h
      · have := e1.1 h; omega
      · exact h
    obtain ⟨vo2, vl2, vc2, eo, el, ec, e⟩ := HY.shape
    simp only [Value.agg.injEq, Array.mk.injEq, List.cons.injEq, and_true, true_and] at e
    obtain ⟨_, rfl⟩ := e
    exact fTimes_part uo vo do_ eo ul uc vl vc dl dc el ec b1 b2 n1 d1 L1 n2 d2 L2 w HX HY hl (fun wx => .inl (isWhole_no _ _ _ _ _ _ _ wx hdl e2 e3))
end Go.Proofs.YtgdiepfknfnmjaaGreatDoor
