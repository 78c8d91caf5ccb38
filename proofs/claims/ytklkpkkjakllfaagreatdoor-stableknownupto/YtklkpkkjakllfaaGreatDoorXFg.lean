/- frac: Opposite, Minus. -/
import Derived.Test.YtklkpkkjakllfaaGreatDoorXFSum
import Derived.Deep.DeepCutAuto
import Derived.Test.YtklkpkkjakllfaaGreatDoorXFe
import Derived.Lib.IndexLaws
set_option linter.unusedVariables false
set_option linter.unusedSimpArgs false
set_option maxHeartbeats 8000000
set_option maxRecDepth 10000
namespace Go.Proofs.YtklkpkkjakllfaaGreatDoor
open Go.RowKit
theorem oppB_q (q : Rat) : oppB (rB q) (rN q) = rB (-q) ∧ rN (-q) = rN q ∧ (-q).den = q.den := by
  refine ⟨?_, ?_, rfl⟩
  · unfold oppB rB rN
    rw [Rat.neg_num]
    by_cases h : q.num < 0
    · have h2 : ¬ -q.num < 0 := by omega
      simp [h, h2]; omega
    · by_cases h0 : q.num = 0
      · simp [h0]
      · have h2 : -q.num < 0 := by omega
        simp [h, h2, h0]; omega
  · unfold rN; rw [Rat.neg_num, Int.natAbs_neg]
theorem qOpp_at (x : Value) (q : Rat) (L : Nat) (w : World) (hx : FQ w x q L) :
    Calls Tryz.prog 67 #[x] w fun e w' => FQE w (-q) L e w' := by
  refine (opposite_at x _ _ _ L w hx).mono ?_
  rintro e w' ⟨v, rfl, k1, k2⟩
  refine ⟨v, rfl, ?_, k2⟩
  obtain ⟨h1, h2, h3⟩ := oppB_q q
  rw [h1] at k1
  unfold FQ
  rw [h2, h3]
  exact k1
theorem qIsZero_at (x : Value) (q : Rat) (L : Nat) (w : World) (hx : FQ w x q L) :
    Calls Tryz.prog 39 #[x] w fun e w' => e = .returned (.bool (decide (q = 0))) ∧ w.grownBy w' none := by
  refine (isZero_at x _ _ _ L w hx).mono ?_
  rintro e w' ⟨rfl, k2⟩
  refine ⟨?_, k2⟩
  have : decide (rN q = 0) = decide (q = 0) := by
    rw [decide_eq_decide]
    exact ⟨q_zero, fun h => by rw [h]; rfl⟩
  rw [this]
theorem qMinus_at (x y : Value) (p q : Rat) (L1 L2 : Nat) (w : World) (hx : FQ w x p L1) (hy : FQ w y q L2) (hl : L1 + L2 ≤ 4000000000000) :
    Calls Tryz.prog 77 #[x, y] w fun e w' => FQE w (p - q) (L1 + L2 + 2) e w' := by
  have HX := hide hx
  have HY := hide hy
  obtain ⟨uo, ul, uc, do_, dl, dc, rfl⟩ := hx.shape
  obtain ⟨vo, vl, vc, eo, el, ec, rfl⟩ := hy.shape
  obtain ⟨b1, eb1⟩ : ∃ b, b = rB p := ⟨_, rfl⟩
  obtain ⟨b2, eb2⟩ : ∃ b, b = rB q := ⟨_, rfl⟩
  rw [← eb1, ← eb2]
  rw [← eb1] at HX
  rw [← eb2] at HY
  clear hx hy eb1 eb2
  obtain ⟨W, hW⟩ : ∃ W, W = ((w.alloc (Obj.cells #[.bool b1, .slice uo ul uc, .slice do_ dl dc] 75)).alloc (Obj.cells #[.bool b2, .slice vo vl vc, .slice eo el ec] 75)).alloc (Obj.cells #[.bool false, .slice none 0 0, .slice none 0 0] 75) := ⟨_, rfl⟩
  have GW : Hid (w.grownBy W none) := by rw [hW]; exact gr_alloc (gr_alloc (gr_alloc (gr_refl _ _) _) _) _
  have NW : Hid (∀ wx, W.grownBy wx none → NoWords wx (w.heap.size + 1 + 1)) := by
    intro wx hg
    rw [hW] at hg
    have := noWords_res hg
    simpa using this
  have CELLS : Hid (∀ wx, W.grownBy wx none → (wx.cell? ⟨w.heap.size, 0, none⟩ = some (.bool b1) ∧ wx.cell? ⟨w.heap.size, 1, none⟩ = some (.slice uo ul uc) ∧ wx.cell? ⟨w.heap.size, 2, none⟩ = some (.slice do_ dl dc)) ∧ (wx.cell? ⟨w.heap.size + 1, 0, none⟩ = some (.bool b2) ∧ wx.cell? ⟨w.heap.size + 1, 1, none⟩ = some (.slice vo vl vc) ∧ wx.cell? ⟨w.heap.size + 1, 2, none⟩ = some (.slice eo el ec)) ∧ (wx.cell? ⟨w.heap.size + 1 + 1, 0, none⟩ = some (.bool false) ∧ wx.cell? ⟨w.heap.size + 1 + 1, 1, none⟩ = some (.slice none 0 0) ∧ wx.cell? ⟨w.heap.size + 1 + 1, 2, none⟩ = some (.slice none 0 0)) ∧ ∀ i, wx.frozen? ⟨w.heap.size + 1 + 1, i, none⟩ = false) := by
    intro wx hg
    rw [hW] at hg
    have a1 := box_three (gr_none (gr_alloc (gr_alloc (gr_refl _ none) _) _) hg)
    have a2 := box_three (w := w.alloc (Obj.cells #[.bool b1, .slice uo ul uc, .slice do_ dl dc] 75)) (gr_none (gr_alloc (gr_refl _ none) _) hg)
    have a3 := res_cells hg
    have e3 : ((w.alloc (Obj.cells #[.bool b1, .slice uo ul uc, .slice do_ dl dc] 75)).alloc (Obj.cells #[.bool b2, .slice vo vl vc, .slice eo el ec] 75)).heap.size = w.heap.size + 1 + 1 := by simp
    rw [e3] at a3
    refine ⟨a1, by simpa using a2, ?_, ?_⟩
    · exact ⟨a3.1, a3.2.1, a3.2.2.1⟩
    · exact a3.2.2.2
  obtain ⟨⟨s0, s1, s2⟩, ⟨t0, t1, t2⟩, ⟨r0, r1, r2⟩, rf⟩ := CELLS.out W (gr_refl _ _)
  clear rf
  have hne1 : ¬ w.heap.size + 1 + 1 = w.heap.size := by omega
  have hne2 : ¬ w.heap.size = w.heap.size + 1 + 1 := by omega
  have hne3 : ¬ w.heap.size + 1 + 1 = w.heap.size + 1 := by omega
  go_enter Tryz.func77, Tryz.ntmps77
  go_wp2
  rw [← hW]
  clear hW
  have GG : W.grownBy W none := gr_refl _ _
  go_region_held3 (fun w' => w'.cell? ⟨w.heap.size, 0, none⟩ = some (.bool b1) ∧ w'.cell? ⟨w.heap.size, 1, none⟩ = some (.slice uo ul uc) ∧ w'.cell? ⟨w.heap.size, 2, none⟩ = some (.slice do_ dl dc) ∧ w'.cell? ⟨w.heap.size + 1, 0, none⟩ = some (.bool b2) ∧ w'.cell? ⟨w.heap.size + 1, 1, none⟩ = some (.slice vo vl vc) ∧ w'.cell? ⟨w.heap.size + 1, 2, none⟩ = some (.slice eo el ec)) (go_keep)
    (first | (go_at_call 67; refine (qOpp_at _ q L2 _ (HY.out.keep0 (gr_none GW.out (by first | exact gr_none GG (gr_d _) | exact gr_none GG gr_d1 | exact GG)))).mono ?_; rintro e wa ⟨va, rfl, pa, ga⟩; obtain ⟨ao, al, ac, bo, bl, bc, rfl⟩ := pa.shape; have GG : W.grownBy wa none := gr_none (by first | exact gr_none GG (gr_d _) | exact gr_none GG gr_d1 | exact GG) ga; obtain ⟨⟨a0, a1, a2⟩, ⟨a3, a4, a5⟩, ⟨a6, a7, a8⟩, af⟩ := CELLS.out wa GG; have af0 := af 0; have af1 := af 1; have af2 := af 2; clear af) | (go_at_call 122; refine (qPlus_at _ _ p (-q) L1 L2 _ (HX.out.keep0 (gr_none GW.out (by first | exact gr_none GG (gr_d _) | exact gr_none GG gr_d1 | exact GG))) (pa.keep0 (by first | exact gr_d _ | exact gr_d1 | exact gr_refl _ _)) (by omega)).mono ?_; rintro e wf ⟨v6, rfl, f1, f2⟩; obtain ⟨fo, fl, fc, fo2, fl2, fc2, rfl⟩ := f1.shape; have GG : W.grownBy wf none := gr_none (by first | exact gr_none GG (gr_d _) | exact gr_none GG gr_d1 | exact GG) f2; obtain ⟨⟨g0, g1, g2⟩, ⟨g3, g4, g5⟩, ⟨g6, g7, g8⟩, gf⟩ := CELLS.out wf GG; have gf0 := gf 0; have gf1 := gf 1; have gf2 := gf 2; clear gf))
  all_goals
    have F1 := hide f1
    have HGd := hide GG
    clear f1 f2
    go_wp2
    refine bodyPost_ret (v := .agg #[.bool (rB (p + -q)), .slice fo fl fc, .slice fo2 fl2 fc2]) (by first | (simp [results, Tryz.results77, go_sem, g6, g7, g8]; done) | (simp [results, Tryz.results77, go_sem, g6, g7, g8]; rfl)) rfl ?_
    rw [Rat.sub_eq_add_neg]
    exact ⟨_, rfl, FV.other F1.out (NW.out wf HGd.out) gr_three, gr_set (gr_set (gr_set (gr_none GW.out HGd.out) _ _ (by simp; omega)) _ _ (by simp; omega)) _ _ (by simp; omega)⟩
theorem qOver_whole (uo vo : Option Addr) (ul uc vl vc : Nat) (b1 b2 : Bool) (n1 L1 n2 L2 : Nat) (w : World) (hx : Num w (.slice uo ul uc) n1 L1) (hy : Num w (.slice vo vl vc) n2 L2) (hl : L1 + L2 ≤ 4000000000000) :
    Calls Tryz.prog 76 #[.agg #[.bool b1, .slice uo ul uc, .slice none 0 0], .agg #[.bool b2, .slice vo vl vc, .slice none 0 0]] w fun e w' => LowE w (lowQ (b1 != b2) n1 n2).1 (lowQ (b1 != b2) n1 n2).2.1 (lowQ (b1 != b2) n1 n2).2.2 (L1 + L2 + 2) e w' := by
  have NX := hide hx
  have NY := hide hy
  clear hx hy
  obtain ⟨W, hW⟩ : ∃ W, W = ((w.alloc (Obj.cells #[.bool b1, .slice uo ul uc, .slice none 0 0] 75)).alloc (Obj.cells #[.bool b2, .slice vo vl vc, .slice none 0 0] 75)).alloc (Obj.cells #[.bool false, .slice none 0 0, .slice none 0 0] 75) := ⟨_, rfl⟩
  have GW : Hid (w.grownBy W none) := by rw [hW]; exact gr_alloc (gr_alloc (gr_alloc (gr_refl _ _) _) _) _
  have NW : Hid (∀ wx, W.grownBy wx none → NoWords wx (w.heap.size + 1 + 1)) := by
    intro wx hg
    rw [hW] at hg
    have := noWords_res hg
    simpa using this
  have CELLS : Hid (∀ wx, W.grownBy wx none → (wx.cell? ⟨w.heap.size, 0, none⟩ = some (.bool b1) ∧ wx.cell? ⟨w.heap.size, 1, none⟩ = some (.slice uo ul uc) ∧ wx.cell? ⟨w.heap.size, 2, none⟩ = some (.slice none 0 0)) ∧ (wx.cell? ⟨w.heap.size + 1, 0, none⟩ = some (.bool b2) ∧ wx.cell? ⟨w.heap.size + 1, 1, none⟩ = some (.slice vo vl vc) ∧ wx.cell? ⟨w.heap.size + 1, 2, none⟩ = some (.slice none 0 0)) ∧ (wx.cell? ⟨w.heap.size + 1 + 1, 0, none⟩ = some (.bool false) ∧ wx.cell? ⟨w.heap.size + 1 + 1, 1, none⟩ = some (.slice none 0 0) ∧ wx.cell? ⟨w.heap.size + 1 + 1, 2, none⟩ = some (.slice none 0 0)) ∧ ∀ i, wx.frozen? ⟨w.heap.size + 1 + 1, i, none⟩ = false) := by
    intro wx hg
    rw [hW] at hg
    have a1 := box_three (gr_none (gr_alloc (gr_alloc (gr_refl _ none) _) _) hg)
    have a2 := box_three (w := w.alloc (Obj.cells #[.bool b1, .slice uo ul uc, .slice none 0 0] 75)) (gr_none (gr_alloc (gr_refl _ none) _) hg)
    have a3 := res_cells hg
    have e3 : ((w.alloc (Obj.cells #[.bool b1, .slice uo ul uc, .slice none 0 0] 75)).alloc (Obj.cells #[.bool b2, .slice vo vl vc, .slice none 0 0] 75)).heap.size = w.heap.size + 1 + 1 := by simp
    rw [e3] at a3
    refine ⟨a1, by simpa using a2, ?_, ?_⟩
    · exact ⟨a3.1, a3.2.1, a3.2.2.1⟩
    · exact a3.2.2.2
  obtain ⟨⟨s0, s1, s2⟩, ⟨t0, t1, t2⟩, ⟨r0, r1, r2⟩, rf⟩ := CELLS.out W (gr_refl _ _)
  clear rf
  have hne1 : ¬ w.heap.size + 1 + 1 = w.heap.size := by omega
  have hne2 : ¬ w.heap.size = w.heap.size + 1 + 1 := by omega
  have hne3 : ¬ w.heap.size + 1 + 1 = w.heap.size + 1 := by omega
  go_enter Tryz.func76, Tryz.ntmps76
  go_wp2_with fail
  rw [← hW]
  clear hW
  refine (isWhole_yes _ _ _ _ _).mono ?_
  rintro e w1 ⟨rfl, g1⟩
  have G1 := hide g1
  obtain ⟨⟨a0, a1, a2⟩, ⟨a3, a4, a5⟩, _⟩ := CELLS.out w1 g1
  clear g1
  go_wp2_with fail
  refine (isWhole_yes _ _ _ _ _).mono ?_
  rintro e w2 ⟨rfl, g2⟩
  have G2 := hide (gr_none G1.out g2)
  obtain ⟨⟨c0, c1, c2⟩, ⟨c3, c4, c5⟩, _⟩ := CELLS.out w2 G2.out
  clear g2
  go_wp2_with fail
  refine (lowest_at _ _ _ n1 n2 (L1 + L2 + 2) _ ((NX.out.keep0 (gr_none GW.out G2.out)).mono (by omega)) ((NY.out.keep0 (gr_none GW.out G2.out)).mono (by omega)) (by omega)).mono ?_
  rintro e w3 ⟨v3, rfl, p1, p2⟩
  obtain ⟨fo, fl, fc, fo2, fl2, fc2, rfl⟩ := p1.shape
  have P1 := hide p1
  have G3 := hide (gr_none G2.out p2)
  obtain ⟨⟨k0, k1, k2⟩, ⟨k3, k4, k5⟩, ⟨g6, g7, g8⟩, kf⟩ := CELLS.out w3 G3.out
  have kf0 := kf 0
  have kf1 := kf 1
  have kf2 := kf 2
  clear kf p1 p2
  go_wp2
  refine bodyPost_ret (v := .agg #[.bool (lowQ (b1 != b2) n1 n2).1, .slice fo fl fc, .slice fo2 fl2 fc2]) (by first | (simp [results, Tryz.results76, go_sem, g6, g7, g8]; done) | (simp [results, Tryz.results76, go_sem, g6, g7, g8]; rfl)) rfl ?_
  exact ⟨_, rfl, P1.out.other (NW.out w3 G3.out) gr_three, gr_set (gr_set (gr_set (gr_none GW.out G3.out) _ _ (by simp; omega)) _ _ (by simp; omega)) _ _ (by simp; omega)⟩
theorem qOver_part (uo vo do_ eo : Option Addr) (ul uc vl vc dl dc el ec : Nat) (b1 b2 : Bool) (n1 d1 L1 n2 d2 L2 : Nat) (w : World) (hx : FV w (.agg #[.bool b1, .slice uo ul uc, .slice do_ dl dc]) b1 n1 d1 L1) (hy : FV w (.agg #[.bool b2, .slice vo vl vc, .slice eo el ec]) b2 n2 d2 L2) (hn : 0 < n2) (hl : L1 + L2 ≤ 4000000000000)
    (hwh : ∀ wx : World, (Calls Tryz.prog 118 #[.agg #[.bool b1, .slice uo ul uc, .slice do_ dl dc]] wx fun e w' => e = .returned (.bool false) ∧ wx.grownBy w' none) ∨ ((Calls Tryz.prog 118 #[.agg #[.bool b1, .slice uo ul uc, .slice do_ dl dc]] wx fun e w' => e = .returned (.bool true) ∧ wx.grownBy w' none) ∧ ∀ wx : World, Calls Tryz.prog 118 #[.agg #[.bool b2, .slice vo vl vc, .slice eo el ec]] wx fun e w' => e = .returned (.bool false) ∧ wx.grownBy w' none)) :
    Calls Tryz.prog 76 #[.agg #[.bool b1, .slice uo ul uc, .slice do_ dl dc], .agg #[.bool b2, .slice vo vl vc, .slice eo el ec]] w fun e w' => LowE w (lowQ (b1 != b2) (n1 * d2) (d1 * n2)).1 (lowQ (b1 != b2) (n1 * d2) (d1 * n2)).2.1 (lowQ (b1 != b2) (n1 * d2) (d1 * n2)).2.2 (L1 + L2 + 2) e w' := by
  have HX := hide hx
  have HY := hide hy
  have hd2 := hy.down_le.1
  have hc2 := hy.cop
  have NY : Hid (Num w (.slice vo vl vc) n2 L2) := by
    obtain ⟨up, down, e, h1, _⟩ := hy
    simp only [Value.agg.injEq, Array.mk.injEq, List.cons.injEq, and_true, true_and] at e
    rw [e.1]; exact h1
  clear hx hy
  have HLQ : Hid (lowQ b2 d2 n2 = (b2, d2, n2)) := by show _ = _; exact lowQ_barred b2 d2 n2 hd2 hn (by rw [Nat.gcd_comm]; exact hc2)
  have HCOP : Hid (d2 = 0 ∨ Nat.gcd d2 n2 = 1) := .inr (by rw [Nat.gcd_comm]; exact hc2)
  have hzz : decide (n2 = 0) = false := decide_eq_false (by omega)
  have HZZ := hide hzz
  clear hc2 hzz
  obtain ⟨W, hW⟩ : ∃ W, W = ((w.alloc (Obj.cells #[.bool b1, .slice uo ul uc, .slice do_ dl dc] 75)).alloc (Obj.cells #[.bool b2, .slice vo vl vc, .slice eo el ec] 75)).alloc (Obj.cells #[.bool false, .slice none 0 0, .slice none 0 0] 75) := ⟨_, rfl⟩
  have GW : Hid (w.grownBy W none) := by rw [hW]; exact gr_alloc (gr_alloc (gr_alloc (gr_refl _ _) _) _) _
  have NW : Hid (∀ wx, W.grownBy wx none → NoWords wx (w.heap.size + 1 + 1)) := by
    intro wx hg
    rw [hW] at hg
    have := noWords_res hg
    simpa using this
  have CELLS : Hid (∀ wx, W.grownBy wx none → (wx.cell? ⟨w.heap.size, 0, none⟩ = some (.bool b1) ∧ wx.cell? ⟨w.heap.size, 1, none⟩ = some (.slice uo ul uc) ∧ wx.cell? ⟨w.heap.size, 2, none⟩ = some (.slice do_ dl dc)) ∧ (wx.cell? ⟨w.heap.size + 1, 0, none⟩ = some (.bool b2) ∧ wx.cell? ⟨w.heap.size + 1, 1, none⟩ = some (.slice vo vl vc) ∧ wx.cell? ⟨w.heap.size + 1, 2, none⟩ = some (.slice eo el ec)) ∧ (wx.cell? ⟨w.heap.size + 1 + 1, 0, none⟩ = some (.bool false) ∧ wx.cell? ⟨w.heap.size + 1 + 1, 1, none⟩ = some (.slice none 0 0) ∧ wx.cell? ⟨w.heap.size + 1 + 1, 2, none⟩ = some (.slice none 0 0)) ∧ ∀ i, wx.frozen? ⟨w.heap.size + 1 + 1, i, none⟩ = false) := by
    intro wx hg
    rw [hW] at hg
    have a1 := box_three (gr_none (gr_alloc (gr_alloc (gr_refl _ none) _) _) hg)
    have a2 := box_three (w := w.alloc (Obj.cells #[.bool b1, .slice uo ul uc, .slice do_ dl dc] 75)) (gr_none (gr_alloc (gr_refl _ none) _) hg)
    have a3 := res_cells hg
    have e3 : ((w.alloc (Obj.cells #[.bool b1, .slice uo ul uc, .slice do_ dl dc] 75)).alloc (Obj.cells #[.bool b2, .slice vo vl vc, .slice eo el ec] 75)).heap.size = w.heap.size + 1 + 1 := by simp
    rw [e3] at a3
    refine ⟨a1, by simpa using a2, ?_, ?_⟩
    · exact ⟨a3.1, a3.2.1, a3.2.2.1⟩
    · exact a3.2.2.2
  obtain ⟨⟨s0, s1, s2⟩, ⟨t0, t1, t2⟩, ⟨r0, r1, r2⟩, rf⟩ := CELLS.out W (gr_refl _ _)
  clear rf
  have hne1 : ¬ w.heap.size + 1 + 1 = w.heap.size := by omega
  have hne2 : ¬ w.heap.size = w.heap.size + 1 + 1 := by omega
  have hne3 : ¬ w.heap.size + 1 + 1 = w.heap.size + 1 := by omega
  have HWH := hide hwh
  clear hwh
  go_enter Tryz.func76, Tryz.ntmps76
  go_upto_region 1 with fail
  rw [← hW]
  clear hW
  go_cut [10] (fun s10 wx => Hid (s10 = .bool false ∧ W.grownBy wx none))
  case first =>
    go_wp2_with fail
    rcases HWH.out W with h | ⟨h, h2⟩
    · refine h.mono ?_
      rintro e w1 ⟨rfl, g1⟩
      go_wp2_with fail
      go_meet
      exact ⟨rfl, g1⟩
    · refine h.mono ?_
      rintro e w1 ⟨rfl, g1⟩
      obtain ⟨⟨a0, a1, a2⟩, ⟨a3, a4, a5⟩, _⟩ := CELLS.out w1 g1
      go_wp2_with fail
      refine (h2 _).mono ?_
      rintro e w2 ⟨rfl, g2⟩
      go_wp2_with fail
      go_meet
      exact ⟨rfl, gr_none g1 g2⟩
  case rest =>
    obtain ⟨rfl, GG⟩ := hcut.out
    clear hcut s0 s1 s2 t0 t1 t2 r0 r1 r2
    obtain ⟨⟨s0, s1, s2⟩, ⟨s3, s4, s5⟩, _⟩ := CELLS.out wc GG
    go_wp2_with fail
    refine (isZero_at _ b2 n2 d2 L2 _ (HY.out.keep0 (gr_none GW.out GG))).mono ?_
    rintro e w1 ⟨rfl, g1⟩
    rw [HZZ.out]
    have GG' : W.grownBy w1 none := gr_none GG g1
    clear GG s0 s1 s2 s3 s4 s5 g1
    have GG := GG'
    clear GG'
    obtain ⟨⟨s0, s1, s2⟩, ⟨s3, s4, s5⟩, _⟩ := CELLS.out w1 GG
    go_wp2
    go_region_held3 (fun w' => w'.cell? ⟨w.heap.size, 0, none⟩ = some (.bool b1) ∧ w'.cell? ⟨w.heap.size, 1, none⟩ = some (.slice uo ul uc) ∧ w'.cell? ⟨w.heap.size, 2, none⟩ = some (.slice do_ dl dc) ∧ w'.cell? ⟨w.heap.size + 1, 0, none⟩ = some (.bool b2) ∧ w'.cell? ⟨w.heap.size + 1, 1, none⟩ = some (.slice vo vl vc) ∧ w'.cell? ⟨w.heap.size + 1, 2, none⟩ = some (.slice eo el ec)) (go_keep)
      (first | (go_at_call_of 121 (Value.agg #[.bool b2, .slice vo vl vc, .slice eo el ec]); refine (bar_at _ _ _ _ L2 _ (HY.out.keep0 (gr_none GW.out (by first | exact gr_none GG (gr_d _) | exact gr_none GG gr_d1 | exact GG)))).mono ?_; rintro e wa ⟨va, rfl, pa, ga⟩; obtain ⟨ao, al, ac, rfl, _, _, _⟩ := pa.shape; have KP := gr_none (by first | exact gr_d _ | exact gr_d1 | exact gr_refl _ _) ga; have GG : W.grownBy wa none := gr_none (by first | exact gr_none GG (gr_d _) | exact gr_none GG gr_d1 | exact GG) ga; (try have px := px.keep0 KP); clear KP; obtain ⟨⟨ca0, ca1, ca2⟩, ⟨ca3, ca4, ca5⟩, ⟨ca6, ca7, ca8⟩, caf⟩ := CELLS.out wa GG; have caf0 := caf 0; have caf1 := caf 1; have caf2 := caf 2; clear caf) | (go_at_call 120; refine (barred_at _ _ _ d2 n2 (L2 + 1) _ (pa.keep0 (by first | exact gr_d _ | exact gr_d1 | exact gr_refl _ _)) ((NY.out.keep0 (gr_none GW.out (by first | exact gr_none GG (gr_d _) | exact gr_none GG gr_d1 | exact GG))).mono (by omega)) hn HCOP.out).mono ?_; rintro e wx ⟨vx, rfl, px, gx⟩; rw [HLQ.out] at px; obtain ⟨xo, xl, xc, yo, yl, yc, rfl⟩ := px.shape; have GG : W.grownBy wx none := gr_none (by first | exact gr_none GG (gr_d _) | exact gr_none GG gr_d1 | exact GG) gx; obtain ⟨⟨cx0, cx1, cx2⟩, ⟨cx3, cx4, cx5⟩, ⟨cx6, cx7, cx8⟩, cxf⟩ := CELLS.out wx GG; have cxf0 := cxf 0; have cxf1 := cxf 1; have cxf2 := cxf 2; clear cxf) | (go_at_call 78; refine (fTimes_at _ _ b1 b2 n1 d1 L1 d2 n2 (L2 + 1) _ (HX.out.keep0 (gr_none GW.out (by first | exact gr_none GG (gr_d _) | exact gr_none GG gr_d1 | exact GG))) (px.keep0 (by first | exact gr_d _ | exact gr_d1 | exact gr_refl _ _)) (by omega)).mono ?_; rintro e wf ⟨v6, rfl, f1, f2⟩; obtain ⟨fo, fl, fc, fo2, fl2, fc2, rfl⟩ := f1.shape; have GG : W.grownBy wf none := gr_none (by first | exact gr_none GG (gr_d _) | exact gr_none GG gr_d1 | exact GG) f2; obtain ⟨⟨g0, g1, g2⟩, ⟨g3, g4, g5⟩, ⟨g6, g7, g8⟩, gf⟩ := CELLS.out wf GG; have gf0 := gf 0; have gf1 := gf 1; have gf2 := gf 2; clear gf))
    all_goals
      have F1 := hide f1
      have HGd := hide GG
      clear f1 f2
      go_wp2
      refine bodyPost_ret (v := .agg #[.bool (lowQ (b1 != b2) (n1 * d2) (d1 * n2)).1, .slice fo fl fc, .slice fo2 fl2 fc2]) (by first | (simp [results, Tryz.results76, go_sem, g6, g7, g8]; done) | (simp [results, Tryz.results76, go_sem, g6, g7, g8]; rfl)) rfl ?_
      exact ⟨_, rfl, F1.out.other (NW.out wf HGd.out) gr_three, gr_set (gr_set (gr_set (gr_none GW.out HGd.out) _ _ (by simp; omega)) _ _ (by simp; omega)) _ _ (by simp; omega)⟩
theorem qOver_at (x y : Value) (p q : Rat) (L1 L2 : Nat) (w : World) (hx : FQ w x p L1) (hy : FQ w y q L2) (hq : q ≠ 0) (hl : L1 + L2 ≤ 4000000000000) :
    Calls Tryz.prog 76 #[x, y] w fun e w' => FQE w (p / q) (L1 + L2 + 2) e w' := by
  have HX := hx
  have HY := hy
  have hn : 0 < rN q := by have := q_ne hq; omega
  have hmk : mkRat (sgq (rB p != rB q) (rN p * q.den)) (p.den * rN q) = p / q := by rw [Nat.mul_comm p.den]; exact q_div p q
  obtain ⟨up, down, rfl, h1, h2, h3, h4⟩ := hx
  obtain ⟨up2, down2, rfl, k1, k2, k3, k4⟩ := hy
  obtain ⟨uo, ul, uc, rfl, _⟩ := h1.shape
  obtain ⟨vo, vl, vc, rfl, _⟩ := k1.shape
  rcases h2 with ⟨rfl, hd⟩ | ⟨h2, hd⟩
  · rcases k2 with ⟨rfl, kd⟩ | ⟨k2, kd⟩
    · refine (qOver_whole uo vo ul uc vl vc _ _ _ L1 _ L2 w h1 k1 hl).mono ?_
      intro e w' h
      rw [hd, kd, Nat.mul_one, Nat.one_mul] at hmk
      exact LowE.q hmk h
    · obtain ⟨eo, el, ec, rfl, e1, e2, e3⟩ := k2.shape
      have hel : 0 < el := by
        rcases Nat.eq_zero_or_pos el with h | h
        · have := e1.1 h; omega
        · exact h
      refine (qOver_part uo vo none eo ul uc vl vc 0 0 el ec _ _ _ _ L1 _ _ L2 w HX HY hn hl (fun wx => .inr ⟨isWhole_yes _ _ _ _ wx, fun wy => isWhole_no _ _ _ _ _ _ _ wy hel e2 e3⟩)).mono ?_
      intro e w' h
      exact LowE.q hmk h
  · obtain ⟨do_, dl, dc, rfl, e1, e2, e3⟩ := h2.shape
    have hdl : 0 < dl := by
      rcases Nat.eq_zero_or_pos dl with h | h
      · have := e1.1 h; omega
      · exact h
    obtain ⟨vo2, vl2, vc2, eo, el, ec, e⟩ := HY.shape
    simp only [Value.agg.injEq, Array.mk.injEq, List.cons.injEq, and_true, true_and] at e
    obtain ⟨_, rfl⟩ := e
    refine (qOver_part uo vo do_ eo ul uc vl vc dl dc el ec _ _ _ _ L1 _ _ L2 w HX HY hn hl (fun wx => .inl (isWhole_no _ _ _ _ _ _ _ wx hdl e2 e3))).mono ?_
    intro e w' h
    exact LowE.q hmk h
open Go.RowKit Go.Lib
theorem isD_digit {k : Nat} (h : k < 10) : isD (UInt8.ofNat (48 + k)) = true ∧ (UInt8.ofNat (48 + k)).toNat - 48 = k := by
  have e : (UInt8.ofNat (48 + k)).toNat = 48 + k := by rw [UInt8.toNat_ofNat']; omega
  unfold isD
  rw [e]
  constructor
  · simp; omega
  · omega
theorem dec_isD (n : Nat) : ∀ c ∈ decDigits n, isD c = true := by
  induction n using Nat.strongRecOn with
  | _ n ih =>
    intro c hc
    rw [decDigits] at hc
    split at hc
    · rename_i h
      simp only [List.mem_singleton] at hc
      subst hc
      exact (isD_digit h).1
    · rename_i h
      rcases List.mem_append.1 hc with hc | hc
      · exact ih (n / 10) (by omega) c hc
      · simp only [List.mem_singleton] at hc
        subst hc
        exact (isD_digit (Nat.mod_lt _ (by decide))).1
theorem decL_snoc (l : List UInt8) (c : UInt8) : decL (l ++ [c]) = decL l * 10 + (c.toNat - 48) := by
  unfold decL
  rw [List.foldl_append]
  rfl
theorem decL_dec (n : Nat) : decL (decDigits n) = n := by
  induction n using Nat.strongRecOn with
  | _ n ih =>
    rw [decDigits]
    split
    · rename_i h
      have := decL_snoc [] (UInt8.ofNat (48 + n))
      rw [List.nil_append] at this
      rw [this, (isD_digit h).2]
      simp [decL]
    · rename_i h
      rw [decL_snoc, ih (n / 10) (by omega), (isD_digit (Nat.mod_lt _ (by decide))).2]
      omega
theorem dec_ne (n : Nat) : decDigits n ≠ [] := by
  rw [decDigits]
  split <;> simp
theorem dec_allD (n : Nat) : allD (decDigits n) = true := by
  unfold allD
  have h1 : (decDigits n).isEmpty = false := by
    cases h : decDigits n with
    | nil => exact absurd h (dec_ne n)
    | cons a l => rfl
  rw [h1, List.all_eq_true.2 (dec_isD n)]
  rfl
theorem isD_ne {c d : UInt8} (h : isD c = true) (hd : isD d = false) : c ≠ d := fun e => by rw [e, hd] at h; cases h
theorem index_miss (l : List UInt8) (d : UInt8) (h : ∀ c ∈ l, c ≠ d) : index l [d] = -1 := by
  induction l with
  | nil => rfl
  | cons a l ih =>
    have h1 : ([d] : List UInt8).isPrefixOf (a :: l) = false := by
      have := h a (List.mem_cons_self ..)
      simp [List.isPrefixOf]
      exact fun e => this e.symm
    unfold index
    rw [h1, ih (fun c hc => h c (List.mem_cons_of_mem _ hc))]
    rfl
theorem index_at (l r : List UInt8) (d : UInt8) (h : ∀ c ∈ l, c ≠ d) : index (l ++ d :: r) [d] = (l.length : Int) := by
  induction l with
  | nil =>
    unfold index
    simp [List.isPrefixOf]
  | cons a l ih =>
    have h1 : ([d] : List UInt8).isPrefixOf (a :: (l ++ d :: r)) = false := by
      have := h a (List.mem_cons_self ..)
      simp [List.isPrefixOf]
      exact fun e => this e.symm
    rw [List.cons_append]
    unfold index
    rw [h1, ih (fun c hc => h c (List.mem_cons_of_mem _ hc)), if_neg (by simp), if_neg (by simp)]
    simp
theorem cut_miss (l : List UInt8) (d : UInt8) (h : ∀ c ∈ l, c ≠ d) : cut l [d] = (l, [], false) := by
  unfold cut
  rw [index_miss l d h]
  rfl
theorem cut_at (l r : List UInt8) (d : UInt8) (h : ∀ c ∈ l, c ≠ d) : cut (l ++ d :: r) [d] = (l, r, true) := by
  unfold cut
  rw [index_at l r d h, if_pos (by omega)]
  simp
theorem digits_47 (n : Nat) : ∀ c ∈ decDigits n, c ≠ 47 := fun c hc => isD_ne (dec_isD n c hc) (by decide)
theorem trim_minus (b : Bool) (n : Nat) (r : List UInt8) : hasPrefix ((if b then [45] else []) ++ (decDigits n ++ r)) [45] = b ∧ trimPrefix ((if b then [45] else []) ++ (decDigits n ++ r)) [45] = decDigits n ++ r := by
  cases b
  · have h : hasPrefix (decDigits n ++ r) [45] = false := by
      unfold hasPrefix
      cases hd : decDigits n with
      | nil => exact absurd hd (dec_ne n)
      | cons a l =>
        have h1 : isD a = true := dec_isD n a (by rw [hd]; exact List.mem_cons_self ..)
        have h2 : a ≠ 45 := isD_ne h1 (by decide)
        simp [List.isPrefixOf]
        exact fun e => h2 e.symm
    simp only [Bool.false_eq_true, if_false, List.nil_append]
    refine ⟨h, ?_⟩
    unfold trimPrefix
    rw [h]
    rfl
  · have h : hasPrefix (45 :: (decDigits n ++ r)) [45] = true := by
      unfold hasPrefix
      simp [List.isPrefixOf]
    simp only [if_true, List.singleton_append]
    refine ⟨h, ?_⟩
    unfold trimPrefix
    rw [h]
    rfl
theorem ofR_qtext (q : Rat) : ofR (qtext q) = q := by
  unfold ofR qtext
  have hm := trim_minus (rB q) (rN q) (if q.den = 1 then [] else 47 :: decDigits q.den)
  rw [hm.1, hm.2]
  have key : mkRat (sgq (rB q) (rN q)) q.den = q := by rw [rat_sgn, Rat.mkRat_self]
  by_cases h1 : q.den = 1
  · rw [if_pos h1, List.append_nil]
    unfold downOf
    rw [cut_miss _ _ (digits_47 _)]
    simp only [Bool.false_eq_true, if_false]
    rw [dec_allD, decL_dec, show allD [49] = true by decide, show decL [49] = 1 by decide]
    rw [h1] at key
    simpa using key
  · rw [if_neg h1]
    unfold downOf
    rw [cut_at _ _ _ (digits_47 _)]
    simp only [if_true]
    rw [dec_allD, dec_allD, decL_dec, decL_dec]
    simpa using key
def QFit (q : Rat) (L : Nat) : Prop := rN q < 4294967296 ^ L ∧ q.den < 4294967296 ^ L
theorem dec_fit {n L : Nat} (h : n < 4294967296 ^ L) (hL : 0 < L) : (decDigits n).length ≤ 10 * L := by
  refine dec_len_le (by omega) (Nat.lt_of_lt_of_le h ?_)
  rw [Nat.pow_mul]
  exact Nat.pow_le_pow_left (by decide) L
theorem qtext_len {q : Rat} {L : Nat} (h : QFit q L) (hL : 0 < L) : (qtext q).length ≤ 20 * L + 2 := by
  have h1 := dec_fit h.1 hL
  have h2 := dec_fit h.2 hL
  unfold qtext
  rw [List.length_append, List.length_append]
  have h3 : (if rB q then ([45] : List UInt8) else []).length ≤ 1 := by split <;> simp
  have h4 : (if q.den = 1 then ([] : List UInt8) else 47 :: decDigits q.den).length ≤ 10 * L + 1 := by
    split
    · simp
    · rw [List.length_cons]
      omega
  omega
end Go.Proofs.YtklkpkkjakllfaaGreatDoor
namespace Go.Proofs.YtklkpkkjakllfaaGreatDoor
open Go.RowKit
def WKept (w w' : World) : Prop := w.heap.size ≤ w'.heap.size ∧ ∀ a (x : Nat), w.cell? a = some (.int .u32 (x : Nat)) → w'.cell? a = some (.int .u32 (x : Nat))
theorem WKept.trans {w w1 w2 : World} (h : WKept w w1) (k : WKept w1 w2) : WKept w w2 := ⟨Nat.le_trans h.1 k.1, fun a x e => k.2 a x (h.2 a x e)⟩
theorem cell_lt {w : World} {a : Addr} {v : Value} (h : w.cell? a = some v) : a.block < w.heap.size := by
  rcases Nat.lt_or_ge a.block w.heap.size with hl | hl
  · exact hl
  · simp [World.cell?, Array.getElem?_eq_none hl] at h
theorem WKept.of_gr {w w' : World} (h : w.grownBy w' none) : WKept w w' :=
  ⟨h.size, fun a x e => by rw [World.cell?_of_block (h.block a.block (cell_lt e) (by simp))]; exact e⟩
theorem Num.kept {w w' : World} {v : Value} {n L : Nat} (h : Num w v n L) (k : WKept w w') : Num w' v n L := by
  obtain ⟨xs, h1, h2, h3, h4⟩ := h
  refine ⟨xs, ⟨h1.sm, ?_⟩, h2, h3, h4⟩
  rcases h1.sh with h | ⟨b, off, cap, rfl, hb, hl, hm, hc⟩
  · exact .inl h
  · exact .inr ⟨b, off, cap, rfl, Nat.lt_of_lt_of_le hb k.1, hl, hm, fun i hi => k.2 _ _ (hc i hi)⟩
theorem FV.kept {w w' : World} {v : Value} {neg : Bool} {n d L : Nat} (h : FV w v neg n d L) (k : WKept w w') : FV w' v neg n d L := by
  obtain ⟨up, down, e, h1, h2, h3, h4⟩ := h
  refine ⟨up, down, e, h1.kept k, ?_, h3, h4⟩
  rcases h2 with h2 | ⟨h2, h5⟩
  · exact .inl h2
  · exact .inr ⟨h2.kept k, h5⟩
theorem FQ.kept {w w' : World} {v : Value} {q : Rat} {L : Nat} (h : FQ w v q L) (k : WKept w w') : FQ w' v q L := FV.kept h k
theorem WKept.set {w : World} {b i : Nat} {cur : Array Value} {e : TypeId} (hb : w.heap[b]? = some (.cells cur e (0, 0))) (hi : ∀ x : Nat, cur[i]? ≠ some (.int .u32 (x : Nat))) (v : Value) : WKept w (w.setCell ⟨b, i, none⟩ v) := by
  refine ⟨by simp, ?_⟩
  rintro ⟨b2, i2, f2⟩ x h
  by_cases hbb : b2 = b
  · subst hbb
    have hs := heap_setCell_same w b2 i cur e v hb
    by_cases hii : i2 = i
    · subst hii
      cases f2 with
      | none =>
        simp only [World.cell?, hb] at h
        exact absurd h (hi x)
      | some g => simp [World.cell?, hb] at h
    · cases f2 with
      | none =>
        simp only [World.cell?, hb] at h
        simp only [World.cell?, hs]
        rw [Array.getElem?_setIfInBounds_ne (fun e => hii e.symm)]
        exact h
      | some g => simp [World.cell?, hb] at h
  · have ho := heap_setCell_other w ⟨b, i, none⟩ b2 v hbb
    rw [World.cell?_of_block ho]
    exact h
def FitW (L : Nat) (q : Rat) : Prop := rN q < 4294967296 ^ L ∧ q.den < 4294967296 ^ L
theorem FQ.tight {w : World} {v : Value} {q : Rat} {L L' : Nat} (h : FQ w v q L) (k : FitW L' q) : FQ w v q L' := by
  obtain ⟨up, down, e, h1, h2, h3, h4⟩ := h
  refine ⟨up, down, e, h1.tight k.1, ?_, h3, h4⟩
  rcases h2 with h2 | ⟨h2, h5⟩
  · exact .inl h2
  · exact .inr ⟨h2.tight k.2, h5⟩
def FRow (w : World) (b n : Nat) (R : Nat → Rat) (L : Nat) : Prop :=
  ∃ cur e, w.heap[b]? = some (.cells cur e (0, 0)) ∧ ∀ i, i < n → ∃ u d, cur[i * 3]? = some (.bool (rB (R i))) ∧ cur[i * 3 + 1]? = some u ∧ cur[i * 3 + 2]? = some d ∧ FQ w (.agg #[.bool (rB (R i)), u, d]) (R i) L
theorem FRow.lt {w : World} {b n L : Nat} {R : Nat → Rat} (h : FRow w b n R L) : b < w.heap.size := by
  obtain ⟨cur, e, hb, _⟩ := h
  exact (Array.getElem?_eq_some_iff.1 hb).1
theorem FRow.keep {w w' : World} {b n L : Nat} {R : Nat → Rat} {r : Option Nat} (h : FRow w b n R L) (g : w.grownBy w' r) (k : WKept w w') (hr : some b ≠ r) : FRow w' b n R L := by
  have hl := h.lt
  obtain ⟨cur, e, hb, hc⟩ := h
  refine ⟨cur, e, by rw [g.block b hl hr]; exact hb, fun i hi => ?_⟩
  obtain ⟨u, d, c0, c1, c2, c3⟩ := hc i hi
  exact ⟨u, d, c0, c1, c2, c3.kept k⟩
theorem FRow.keep0 {w w' : World} {b n L : Nat} {R : Nat → Rat} (h : FRow w b n R L) (g : w.grownBy w' none) : FRow w' b n R L := h.keep g (WKept.of_gr g) (by simp)
theorem FRow.congr {w : World} {b n L : Nat} {R R' : Nat → Rat} (h : FRow w b n R L) (e : ∀ i, i < n → R i = R' i) : FRow w b n R' L := by
  obtain ⟨cur, ty, hb, hc⟩ := h
  refine ⟨cur, ty, hb, fun i hi => ?_⟩
  rw [← e i hi]
  exact hc i hi
theorem FRow.at {w : World} {b n L : Nat} {R : Nat → Rat} (h : FRow w b n R L) (i : Nat) (hi : i < n) :
    ∃ uo ul uc do_ dl dc, w.cell? ⟨b, i * 3, none⟩ = some (.bool (rB (R i))) ∧ w.cell? ⟨b, i * 3 + 1, none⟩ = some (.slice uo ul uc) ∧ w.cell? ⟨b, i * 3 + 2, none⟩ = some (.slice do_ dl dc)
      ∧ FQ w (.agg #[.bool (rB (R i)), .slice uo ul uc, .slice do_ dl dc]) (R i) L ∧ ∀ k, w.frozen? ⟨b, k, none⟩ = false := by
  obtain ⟨cur, e, hb, hc⟩ := h
  obtain ⟨u, d, c0, c1, c2, c3⟩ := hc i hi
  obtain ⟨uo, ul, uc, do_, dl, dc, hs⟩ := c3.shape
  simp only [Value.agg.injEq, Array.mk.injEq, List.cons.injEq, and_true, true_and] at hs
  obtain ⟨rfl, rfl⟩ := hs
  exact ⟨uo, ul, uc, do_, dl, dc, by simp only [World.cell?, hb]; exact c0, by simp only [World.cell?, hb]; exact c1, by simp only [World.cell?, hb]; exact c2, c3, fun k => by simp [World.frozen?, hb]⟩
def put (R : Nat → Rat) (i : Nat) (q : Rat) : Nat → Rat := fun j => if j = i then q else R j
theorem set3 {w : World} {b k : Nat} {cur : Array Value} {e : TypeId} (hb : w.heap[b]? = some (.cells cur e (0, 0))) {x0 x1 x2 : Value} (c0 : cur[k]? = some x0) (c1 : cur[k + 1]? = some x1) (c2 : cur[k + 2]? = some x2)
    (n0 : ∀ x : Nat, x0 ≠ .int .u32 (x : Nat)) (n1 : ∀ x : Nat, x1 ≠ .int .u32 (x : Nat)) (n2 : ∀ x : Nat, x2 ≠ .int .u32 (x : Nat)) (y0 y1 y2 : Value) :
    ∃ cur', (((w.setCell ⟨b, k, none⟩ y0).setCell ⟨b, k + 1, none⟩ y1).setCell ⟨b, k + 2, none⟩ y2).heap[b]? = some (.cells cur' e (0, 0))
      ∧ cur'[k]? = some y0 ∧ cur'[k + 1]? = some y1 ∧ cur'[k + 2]? = some y2 ∧ (∀ j, j ≠ k → j ≠ k + 1 → j ≠ k + 2 → cur'[j]? = cur[j]?)
      ∧ WKept w (((w.setCell ⟨b, k, none⟩ y0).setCell ⟨b, k + 1, none⟩ y1).setCell ⟨b, k + 2, none⟩ y2) := by
  have l0 := (Array.getElem?_eq_some_iff.1 c0).1
  have l1 := (Array.getElem?_eq_some_iff.1 c1).1
  have l2 := (Array.getElem?_eq_some_iff.1 c2).1
  have h1 := heap_setCell_same w b k cur e y0 hb
  have h2 := heap_setCell_same (w.setCell ⟨b, k, none⟩ y0) b (k + 1) (cur.setIfInBounds k y0) e y1 h1
  have h3 := heap_setCell_same ((w.setCell ⟨b, k, none⟩ y0).setCell ⟨b, k + 1, none⟩ y1) b (k + 2) ((cur.setIfInBounds k y0).setIfInBounds (k + 1) y1) e y2 h2
  have k1 : WKept w (w.setCell ⟨b, k, none⟩ y0) := WKept.set hb (fun x e => by rw [c0] at e; exact n0 x (Option.some.inj e)) y0
  have k2 := WKept.set h1 (i := k + 1) (fun x e => by rw [Array.getElem?_setIfInBounds_ne (by omega), c1] at e; exact n1 x (Option.some.inj e)) y1
  have k3 := WKept.set h2 (i := k + 2) (fun x e => by rw [Array.getElem?_setIfInBounds_ne (by omega), Array.getElem?_setIfInBounds_ne (by omega), c2] at e; exact n2 x (Option.some.inj e)) y2
  refine ⟨((cur.setIfInBounds k y0).setIfInBounds (k + 1) y1).setIfInBounds (k + 2) y2, h3, ?_, ?_, ?_, ?_, (k1.trans k2).trans k3⟩
  · rw [Array.getElem?_setIfInBounds_ne (by omega), Array.getElem?_setIfInBounds_ne (by omega), Array.getElem?_setIfInBounds_self_of_lt l0]
  · rw [Array.getElem?_setIfInBounds_ne (by omega), Array.getElem?_setIfInBounds_self_of_lt (by simpa using l1)]
  · rw [Array.getElem?_setIfInBounds_self_of_lt (by simpa using l2)]
  · intro j j0 j1 j2
    rw [Array.getElem?_setIfInBounds_ne (by omega), Array.getElem?_setIfInBounds_ne (by omega), Array.getElem?_setIfInBounds_ne (by omega)]
theorem FRow.set {w : World} {b n L : Nat} {R : Nat → Rat} (h : FRow w b n R L) (i : Nat) (hi : i < n) {q : Rat} {uo do_ : Option Addr} {ul uc dl dc : Nat} (hq : FQ w (.agg #[.bool (rB q), .slice uo ul uc, .slice do_ dl dc]) q L) :
    FRow (((w.setCell ⟨b, i * 3, none⟩ (.bool (rB q))).setCell ⟨b, i * 3 + 1, none⟩ (.slice uo ul uc)).setCell ⟨b, i * 3 + 2, none⟩ (.slice do_ dl dc)) b n (put R i q) L
    ∧ w.grownBy (((w.setCell ⟨b, i * 3, none⟩ (.bool (rB q))).setCell ⟨b, i * 3 + 1, none⟩ (.slice uo ul uc)).setCell ⟨b, i * 3 + 2, none⟩ (.slice do_ dl dc)) (some b)
    ∧ WKept w (((w.setCell ⟨b, i * 3, none⟩ (.bool (rB q))).setCell ⟨b, i * 3 + 1, none⟩ (.slice uo ul uc)).setCell ⟨b, i * 3 + 2, none⟩ (.slice do_ dl dc)) := by
  have hg : w.grownBy (((w.setCell ⟨b, i * 3, none⟩ (.bool (rB q))).setCell ⟨b, i * 3 + 1, none⟩ (.slice uo ul uc)).setCell ⟨b, i * 3 + 2, none⟩ (.slice do_ dl dc)) (some b) :=
    ⟨rfl, rfl, rfl, by simp, fun k _ hr => by
      have hk : k ≠ b := fun e => hr (by rw [e])
      rw [heap_setCell_other _ _ k _ hk, heap_setCell_other _ _ k _ hk, heap_setCell_other _ _ k _ hk]⟩
  obtain ⟨cur, e, hb, hc⟩ := h
  obtain ⟨u0, d0, c0, c1, c2, c3⟩ := hc i hi
  obtain ⟨uo2, ul2, uc2, do2, dl2, dc2, hs⟩ := c3.shape
  simp only [Value.agg.injEq, Array.mk.injEq, List.cons.injEq, and_true, true_and] at hs
  obtain ⟨hs1, hs2⟩ := hs
  obtain ⟨cur', g3, g0, g1, g2, gn, kk⟩ := set3 hb c0 c1 c2 (fun x e => by simp at e) (fun x e => by rw [hs1] at e; simp at e) (fun x e => by rw [hs2] at e; simp at e) (.bool (rB q)) (.slice uo ul uc) (.slice do_ dl dc)
  generalize (((w.setCell ⟨b, i * 3, none⟩ (.bool (rB q))).setCell ⟨b, i * 3 + 1, none⟩ (.slice uo ul uc)).setCell ⟨b, i * 3 + 2, none⟩ (.slice do_ dl dc)) = w3 at hg g3 kk
  refine ⟨⟨cur', e, g3, fun j hj => ?_⟩, hg, kk⟩
  by_cases hji : j = i
  · have hp : put R i q j = q := by unfold put; rw [if_pos hji]
    rw [hp, hji]
    exact ⟨.slice uo ul uc, .slice do_ dl dc, g0, g1, g2, hq.kept kk⟩
  · obtain ⟨u, d, e0, e1, e2, e3⟩ := hc j hj
    have hp : put R i q j = R j := by unfold put; rw [if_neg hji]
    rw [hp]
    exact ⟨u, d, by rw [gn _ (by omega) (by omega) (by omega)]; exact e0, by rw [gn _ (by omega) (by omega) (by omega)]; exact e1, by rw [gn _ (by omega) (by omega) (by omega)]; exact e2, e3.kept kk⟩
end Go.Proofs.YtklkpkkjakllfaaGreatDoor
