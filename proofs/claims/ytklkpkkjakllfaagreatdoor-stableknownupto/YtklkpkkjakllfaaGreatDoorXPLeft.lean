/- poly: left. -/
import Derived.Test.YtklkpkkjakllfaaGreatDoorXPc
import Derived.Test.YtklkpkkjakllfaaGreatDoorXFe
import Derived.Deep.RegionHeld3
set_option linter.unusedVariables false
set_option linter.unusedSimpArgs false
set_option maxHeartbeats 8000000
set_option maxRecDepth 10000
namespace Go.Proofs.YtklkpkkjakllfaaGreatDoor
open Go.RowKit
theorem step_form (x y : Nat → Rat) (b K : Nat) : (fun i => qabs (y (b - 1)) * x i - raiseP (fun i => byQ x y (b + K) b * y i) K i) = stepP x (b + K) y b := by
  funext i
  unfold stepP raiseP
  rw [show b + K - b = K by omega]
  by_cases h : i < K
  · rw [if_pos h, if_neg (by omega)]
  · rw [if_neg h, if_pos (by omega)]
theorem step_len {x y : Nat → Rat} {a b m : Nat} (hx : PL x a) (hy : PL y b) (hb : 0 < b) (hab : b ≤ a) (h : PL (stepP x a y b) m) : m + 1 ≤ a := by
  rcases Nat.lt_or_ge m a with hl | hl
  · omega
  · exact absurd (step_top hx hy hb hab (m - 1) (by omega)) (h.2 (by omega))
theorem PL_scale {p : Nat → Rat} {n : Nat} {q : Rat} (h : PL p n) (hq : q ≠ 0) : PL (fun i => q * p i) n := by
  refine ⟨fun i hi => by show q * p i = 0; rw [h.1 i hi, Rat.mul_zero], fun h0 e => ?_⟩
  rcases Rat.mul_eq_zero.1 e with e | e
  · exact hq e
  · exact h.2 h0 e
theorem byQ_ne {x y : Nat → Rat} {a b : Nat} (h : x (a - 1) ≠ 0) : byQ x y a b ≠ 0 := by
  unfold byQ
  split <;> grind
def LefR (W : World) (x : Nat → Rat) (a : Nat) (y : Nat → Rat) (b my M L : Nat) (v : Value) (wr : World) : Prop :=
  ∃ (x' : Nat → Rat) (a' mj : Nat), Rw wr v a' x' L ∧ PL x' a' ∧ Whl x' mj ∧ mj ≤ M ∧ (b ≤ a' → mj + (a' - b + 1) * (my + 1) ≤ M) ∧ a' ≤ 3000 ∧ (∀ r c, Lft y b x' a' r c → Lft y b x a r c) ∧ W.grownBy wr none
def LefE (w : World) (x : Nat → Rat) (a : Nat) (y : Nat → Rat) (b M L : Nat) (e : Ending) (w' : World) : Prop :=
  ∃ v r c, e = .returned v ∧ Rw w' v c r L ∧ PL r c ∧ c < b ∧ Whl r M ∧ Lft y b x a r c ∧ w.grownBy w' none
theorem left_at (xv yv : Value) (a b : Nat) (x y : Nat → Rat) (mx my M L : Nat) (w : World) (hx : Rw w xv a x L) (hy : Rw w yv b y L) (px : PL x a) (py : PL y b) (hb0 : 0 < b) (ha : a ≤ 3000) (hb : b ≤ 3000) (hL : L ≤ 1000000000000) (hL1 : 1 ≤ L) (wx : Whl x mx) (wy : Whl y my) (hM : mx + (a - b + 1) * (my + 1) ≤ M) (hML : M ≤ L) :
    Calls Tryz.prog 71 #[xv, yv] w fun e w' => LefE w x a y b M L e w' := by
  have HX := hide hx
  have YR := hide hy
  have PX := hide px
  have YP := hide py
  have WX := hide wx
  have YW := hide wy
  have HM := hide hM
  obtain ⟨xo0, xc0, rfl, _, _, _⟩ := hx
  obtain ⟨yo, yc, rfl, hyc, hym, _⟩ := hy
  unfold maxLen at hym
  clear px py wx wy hM
  go_enter Tryz.func71, Tryz.ntmps71
  go_wp2_with fail
  refine (last_at _ b y L w YR.out hb0 hb YP.out.1).mono ?_
  rintro e w1 ⟨v1, rfl, f1, g1⟩
  obtain ⟨lo, ll, lc, lo2, ll2, lc2, rfl⟩ := f1.shape
  have F1 := hide f1
  have G1 := hide g1
  clear f1 g1
  go_wp2
  obtain ⟨W, hW⟩ : ∃ W, W = w1.alloc (Obj.cells #[.bool (rB (y (b - 1))), .slice lo ll lc, .slice lo2 ll2 lc2] 75) := ⟨_, rfl⟩
  obtain ⟨bl, hbl⟩ : ∃ bl, bl = w1.heap.size := ⟨_, rfl⟩
  have GW : Hid (w.grownBy W none) := by rw [hW]; exact gr_alloc G1.out _
  have LF : Hid (FQ W (.agg #[.bool (rB (y (b - 1))), .slice lo ll lc, .slice lo2 ll2 lc2]) (y (b - 1)) L) := by rw [hW]; exact F1.out.keep0 (gr_alloc (gr_refl _ _) _)
  have LCW : Hid (W.cell? ⟨bl, 0, none⟩ = some (.bool (rB (y (b - 1)))) ∧ W.cell? ⟨bl, 1, none⟩ = some (.slice lo ll lc) ∧ W.cell? ⟨bl, 2, none⟩ = some (.slice lo2 ll2 lc2)) := by
    have hg : (w1.alloc (Obj.cells #[.bool (rB (y (b - 1))), .slice lo ll lc, .slice lo2 ll2 lc2] 75)).grownBy W none := by rw [← hW]; exact gr_refl _ _
    rw [hbl]
    exact box_three hg
  rw [← hW, ← hbl]
  clear hW hbl F1 G1
  go_loopw [0, 6] (fun v _ wr => Hid (LefR W x a y b my M L v wr)) (fun v _ _ => lenOf v)
  case atStart => exact ⟨x, a, mx, HX.out.keep0 GW.out, PX.out, WX.out, Nat.le_trans (Nat.le_add_right _ _) HM.out, fun _ => HM.out, ha, fun r c h => h, gr_refl _ _⟩
  case round =>
    obtain ⟨x', a', mj, h1, h2, h3, h4, h5, h6, h7, h8⟩ := hrel.out
    have XR0 := hide h1
    have XP0 := hide h2
    have XW := hide h3
    have XL0 := hide h7
    have L2 := hide h8
    have M5 := hide h5
    obtain ⟨xo, xc, rfl, hxc, hxm, _⟩ := h1
    unfold maxLen at hxm
    clear h2 h3 h5 h7 h8 hrel HX PX WX HM
    by_cases hlt : a' < b
    · have hge : ¬ ((b : Nat) : Int) ≤ (a' : Int) := by omega
      go_wp2
      go_ret
      exact ⟨_, x', a', rfl, XR0.out.keep0 (gr_refl _ _), XP0.out, hlt, XW.out.mono h4, XL0.out _ _ (.over0 _ _ hlt), gr_none GW.out L2.out⟩
    · obtain ⟨K, rfl⟩ : ∃ K, a' = b + K := ⟨a' - b, by omega⟩
      have hge : ((b : Nat) : Int) ≤ ((b + K : Nat) : Int) := by omega
      have HSUB : Hid (IntKind.i64.wrap (((b : Nat) : Int) + ((K : Nat) : Int) - ((b : Nat) : Int)) = ((K : Nat) : Int)) := by show _ = _; rw [IntWalk.i64_in _ ⟨by omega, by omega⟩]; omega
      have XP := XP0
      have XL := XL0
      have m5 := M5.out (by omega)
      rw [show b + K - b + 1 = K + 1 by omega, Nat.succ_mul] at m5
      have NB : Hid (∀ m, m + 1 ≤ b + K → mj + my + 1 ≤ M ∧ (b ≤ m → mj + my + 1 + (m - b + 1) * (my + 1) ≤ M)) := by
        intro m hm
        refine ⟨by omega, fun hbm => ?_⟩
        have : (m - b + 1) * (my + 1) ≤ K * (my + 1) := Nat.mul_le_mul_right _ (by omega)
        omega
      have hmm : mj + my + 1 ≤ L := by omega
      have FB1 : Hid (∀ i, FitW L (qabs (y (b - 1)) * x' i)) := fun i => by
        obtain ⟨q1, q2⟩ := mul_bound (abs_bound (YW.out (b - 1))) (XW.out i)
        exact fit_whole q1 q2 (by omega) hL1
      have FC1 : Hid (∀ i, FitW L (byQ x' y (b + K) b * y i)) := fun i => by
        obtain ⟨q1, q2⟩ := mul_bound (byQ_bound (y := y) (a := b + K) (b := b) XW.out) (YW.out i)
        exact fit_whole q1 q2 (by omega) hL1
      have FE1 : Hid (∀ i, FitW L (qabs (y (b - 1)) * x' i - raiseP (fun i => byQ x' y (b + K) b * y i) K i)) := fun i => by
        have e1 : qabs (y (b - 1)) * x' i - raiseP (fun i => byQ x' y (b + K) b * y i) K i = stepP x' (b + K) y b i := congrFun (step_form x' y b K) i
        rw [e1]
        exact (step_whl XW.out YW.out).fit (by omega) hL1 i
      have PB : Hid (PL (fun i => qabs (y (b - 1)) * x' i) (b + K)) := PL_scale XP.out (by have := qabs_pos (YP.out.2 hb0); grind)
      have hby : Hid (byQ x' y (b + K) b ≠ 0) := byQ_ne (XP.out.2 (by omega))
      have PC : Hid (PL (fun i => byQ x' y (b + K) b * y i) b) := PL_scale YP.out hby.out
      have PD : Hid (PL (raiseP (fun i => byQ x' y (b + K) b * y i) K) (K + b)) := PL_raise PC.out hb0
      clear m5 M5 XP0 XL0
      go_wp2_with fail
      refine (last_at _ (b + K) x' L wr XR0.out (by omega) (by omega) XP.out.1).mono ?_
      rintro e w2 ⟨v2, rfl, f2, g2⟩
      obtain ⟨po, pl, pc, po2, pl2, pc2, rfl⟩ := f2.shape
      have F2 := hide f2
      have G2 := hide g2
      clear f2 g2
      go_upto_region 4 with fail
      obtain ⟨w3, hw3⟩ : ∃ w3, w3 = w2.alloc (Obj.cells #[.bool (rB (x' (b + K - 1))), .slice po pl pc, .slice po2 pl2 pc2] 75) := ⟨_, rfl⟩
      obtain ⟨bb, hbb⟩ : ∃ bb, bb = w2.heap.size := ⟨_, rfl⟩
      have G3 : Hid (wr.grownBy w3 none) := by rw [hw3]; exact gr_alloc G2.out _
      have BF : Hid (FQ w3 (.agg #[.bool (rB (x' (b + K - 1))), .slice po pl pc, .slice po2 pl2 pc2]) (x' (b + K - 1)) L) := by rw [hw3]; exact F2.out.keep0 (gr_alloc (gr_refl _ _) _)
      have BR : Hid (FRow w3 bb 1 (fun _ => x' (b + K - 1)) L) := by
        rw [hw3, hbb]
        refine ⟨_, _, heap_alloc_new w2 _, fun i hi => ?_⟩
        obtain rfl : i = 0 := by omega
        exact ⟨_, _, rfl, rfl, rfl, F2.out.keep0 (gr_alloc (gr_refl _ _) _)⟩
      have HBB : Hid (wr.heap.size ≤ bb ∧ bl < bb) := by
        have k1 := G2.out.size
        have k2 := cell_lt LCW.out.1
        have k3 := L2.out.size
        simp only at k2
        show _ ∧ _
        omega
      have BC0 : Hid (w3.cell? ⟨bb, 0, none⟩ = some (.bool (rB (x' (b + K - 1)))) ∧ w3.cell? ⟨bb, 1, none⟩ = some (.slice po pl pc) ∧ w3.cell? ⟨bb, 2, none⟩ = some (.slice po2 pl2 pc2)) := by
        have hg : (w2.alloc (Obj.cells #[.bool (rB (x' (b + K - 1))), .slice po pl pc, .slice po2 pl2 pc2] 75)).grownBy w3 none := by rw [← hw3]; exact gr_refl _ _
        rw [hbb]
        exact box_three hg
      rw [← hw3, ← hbb]
      clear hw3 hbb F2 G2
      have LSW := hide (LF.out.keep0 (gr_none L2.out G3.out))
      have XR := hide (XR0.out.keep0 G3.out)
      have LC3 : Hid (w3.cell? ⟨bl, 0, none⟩ = some (.bool (rB (y (b - 1)))) ∧ w3.cell? ⟨bl, 1, none⟩ = some (.slice lo ll lc) ∧ w3.cell? ⟨bl, 2, none⟩ = some (.slice lo2 ll2 lc2)) := by
        obtain ⟨k0, k1, k2⟩ := LCW.out
        have hg := gr_none L2.out G3.out
        exact ⟨hg.cell k0 (by simp), hg.cell k1 (by simp), hg.cell k2 (by simp)⟩
      obtain ⟨t0, t1, t2⟩ := LC3.out
      go_wp2_with fail
      refine (fSign_at _ (y (b - 1)) L w3 LSW.out).mono ?_
      rintro e w4 ⟨rfl, g4⟩
      have G4 := hide g4
      clear g4 t0 t1 t2
      have BR4 := hide (BR.out.keep0 G4.out)
      have LC4 : Hid (w4.cell? ⟨bl, 0, none⟩ = some (.bool (rB (y (b - 1)))) ∧ w4.cell? ⟨bl, 1, none⟩ = some (.slice lo ll lc) ∧ w4.cell? ⟨bl, 2, none⟩ = some (.slice lo2 ll2 lc2)) := by
        obtain ⟨k0, k1, k2⟩ := LC3.out
        have hg := G4.out
        exact ⟨hg.cell k0 (by simp), hg.cell k1 (by simp), hg.cell k2 (by simp)⟩
      have BC3 : Hid (w4.cell? ⟨bb, 0, none⟩ = some (.bool (rB (x' (b + K - 1)))) ∧ w4.cell? ⟨bb, 1, none⟩ = some (.slice po pl pc) ∧ w4.cell? ⟨bb, 2, none⟩ = some (.slice po2 pl2 pc2)) := by
        obtain ⟨k0, k1, k2⟩ := BC0.out
        have hg := G4.out
        exact ⟨hg.cell k0 (by simp), hg.cell k1 (by simp), hg.cell k2 (by simp)⟩
      clear BC0
      by_cases hneg : y (b - 1) < 0
      · have hs1 : (y (b - 1)).num.sign = -1 := Int.sign_eq_neg_one_of_neg (qneg_iff.2 hneg)
        rw [hs1]
        have eby : Hid (byQ x' y (b + K) b = -x' (b + K - 1)) := by unfold byQ; exact if_pos hneg
        clear hs1 hneg
        obtain ⟨po', pl', pc', qo', ql', qc', d0, d1, d2, d3, _⟩ := BR4.out.at 0 (by omega)
        simp only [Nat.zero_mul, Nat.zero_add] at d0 d1 d2
        have D3 := hide d3
        clear d3
        go_wp2_with fail
        refine (qOpp_at _ (x' (b + K - 1)) L w4 D3.out).mono ?_
        rintro e w5 ⟨v5, rfl, f5, g5⟩
        obtain ⟨qo, ql, qc, qo2, ql2, qc2, rfl⟩ := f5.shape
        have F5 := hide f5
        have G5 := hide g5
        have BR5 := hide (BR4.out.keep0 G5.out)
        obtain ⟨_, _, _, _, _, _, e0, e1, e2, _, df⟩ := BR5.out.at 0 (by omega)
        simp only [Nat.zero_mul, Nat.zero_add] at e0 e1 e2
        have df0 := df 0
        have df1 := df 1
        have df2 := df 2
        clear f5 g5 df d0 d1 d2
        go_upto_region 6 with fail
        obtain ⟨w6, hw6⟩ : ∃ w6, w6 = ((w5.setCell ⟨bb, 0, none⟩ (.bool (rB (-x' (b + K - 1))))).setCell ⟨bb, 1, none⟩ (.slice qo ql qc)).setCell ⟨bb, 2, none⟩ (.slice qo2 ql2 qc2) := ⟨_, rfl⟩
        rw [← hw6]
        have S6 := BR5.out.set 0 (by omega) F5.out
        simp only [Nat.zero_mul, Nat.zero_add] at S6
        rw [← hw6] at S6
        obtain ⟨r1, r2, r3⟩ := S6
        have G6 : Hid (wr.grownBy w6 none) := gr_own2 (gr_none G3.out (gr_none G4.out G5.out)) r2 (fun k e => by have := HBB.out; cases e; omega)
        have BY : Hid (FQ w6 (.agg #[.bool (rB (byQ x' y (b + K) b)), .slice qo ql qc, .slice qo2 ql2 qc2]) (byQ x' y (b + K) b) L) := by rw [eby.out]; exact F5.out.kept r3
        have BC : Hid (w6.cell? ⟨bb, 0, none⟩ = some (.bool (rB (byQ x' y (b + K) b))) ∧ w6.cell? ⟨bb, 1, none⟩ = some (.slice qo ql qc) ∧ w6.cell? ⟨bb, 2, none⟩ = some (.slice qo2 ql2 qc2)) := by
          obtain ⟨cur, ty, hb5, _⟩ := BR5.out
          rw [eby.out, hw6]
          have hlt5 := (Array.getElem?_eq_some_iff.1 hb5).1
          refine ⟨?_, ?_, ?_⟩
          · go_simp
          · go_simp
          · go_simp
        have LC : Hid (w6.cell? ⟨bl, 0, none⟩ = some (.bool (rB (y (b - 1)))) ∧ w6.cell? ⟨bl, 1, none⟩ = some (.slice lo ll lc) ∧ w6.cell? ⟨bl, 2, none⟩ = some (.slice lo2 ll2 lc2)) := by
          obtain ⟨k0, k1, k2⟩ := LC4.out
          have hg := G5.out
          have hne : some bl ≠ some bb := by have := HBB.out; intro e; cases e; omega
          exact ⟨r2.cell (hg.cell k0 (by simp)) hne, r2.cell (hg.cell k1 (by simp)) hne, r2.cell (hg.cell k2 (by simp)) hne⟩
        have LS : Hid (FQ w6 (.agg #[.bool (rB (y (b - 1))), .slice lo ll lc, .slice lo2 ll2 lc2]) (y (b - 1)) L) := (LSW.out.keep0 (gr_none G4.out G5.out)).kept r3
        have XR6 := hide (XR0.out.keep0 G6.out)
        have GW4 := G6
        have GW3 : Hid (w.grownBy w6 none) := gr_none GW.out (gr_none L2.out G6.out)
        clear hw6 r1 r2 r3 e0 e1 e2 df0 df1 df2 F5 G5 BR5 BR4 BR D3 XR LSW LC3 LC4 G4 G3 BF XR0
        have CX : Hid (∀ wx, w6.grownBy wx none → wx.cell? ⟨bl, 0, none⟩ = some (.bool (rB (y (b - 1)))) ∧ wx.cell? ⟨bl, 1, none⟩ = some (.slice lo ll lc) ∧ wx.cell? ⟨bl, 2, none⟩ = some (.slice lo2 ll2 lc2) ∧ wx.cell? ⟨bb, 0, none⟩ = some (.bool (rB (byQ x' y (b + K) b))) ∧ wx.cell? ⟨bb, 1, none⟩ = some (.slice qo ql qc) ∧ wx.cell? ⟨bb, 2, none⟩ = some (.slice qo2 ql2 qc2)) := by
          intro wx hg
          obtain ⟨k0, k1, k2⟩ := LC.out
          obtain ⟨k3, k4, k5⟩ := BC.out
          exact ⟨hg.cell k0 (by simp), hg.cell k1 (by simp), hg.cell k2 (by simp), hg.cell k3 (by simp), hg.cell k4 (by simp), hg.cell k5 (by simp)⟩
        have GG : w6.grownBy w6 none := gr_refl _ _
        obtain ⟨s0, s1, s2, s3, s4, s5⟩ := CX.out w6 GG
        go_region_held3 (fun w' => w'.cell? ⟨bl, 0, none⟩ = some (.bool (rB (y (b - 1)))) ∧ w'.cell? ⟨bl, 1, none⟩ = some (.slice lo ll lc) ∧ w'.cell? ⟨bl, 2, none⟩ = some (.slice lo2 ll2 lc2) ∧ w'.cell? ⟨bb, 0, none⟩ = some (.bool (rB (byQ x' y (b + K) b))) ∧ w'.cell? ⟨bb, 1, none⟩ = some (.slice qo ql qc) ∧ w'.cell? ⟨bb, 2, none⟩ = some (.slice qo2 ql2 qc2)) (go_keep)
          (first | (go_at_call 103; refine (qabs_at _ (y (b - 1)) L _ (LS.out.keep0 (by first | exact gr_none GG (gr_d _) | exact gr_none GG gr_d1 | exact GG))).mono ?_; rintro e wa ⟨va, rfl, fa, ga⟩; obtain ⟨ao, al, ac, ao2, al2, ac2, rfl⟩ := fa.shape; have KP := gr_none (by first | exact gr_d _ | exact gr_d1 | exact gr_refl _ _) ga; have GG : w6.grownBy wa none := gr_none (by first | exact gr_none GG (gr_d _) | exact gr_none GG gr_d1 | exact GG) ga; (try have RB := hide (RB.out.keep0 KP)); (try have RC := hide (RC.out.keep0 KP)); (try have RD := hide (RD.out.keep0 KP)); have FA := hide fa; clear fa; clear KP ga; obtain ⟨ca0, ca1, ca2, ca3, ca4, ca5⟩ := CX.out wa GG) | (go_at_call_of 102 (Value.slice xo (b + K) xc); refine (scaled_at _ _ (b + K) x' (qabs (y (b - 1))) L _ (XR6.out.keep0 (by first | exact gr_none GG (gr_d _) | exact gr_none GG gr_d1 | exact GG)) (FA.out.keep0 (by first | exact gr_d _ | exact gr_d1 | exact gr_refl _ _)) (by omega) hL XP.out.1 (fun i _ => FB1.out i)).mono ?_; rintro e wb ⟨vb, mb, rfl, hb1, hb2, gb⟩; have emb : mb = b + K := PL_uniq hb2 PB.out; subst emb; have RB0 := hide hb1; obtain ⟨bo, bc, rfl, _, _, _⟩ := hb1; have KP := gr_none (by first | exact gr_d _ | exact gr_d1 | exact gr_refl _ _) gb; have GG : w6.grownBy wb none := gr_none (by first | exact gr_none GG (gr_d _) | exact gr_none GG gr_d1 | exact GG) gb; (try have FA := hide (FA.out.keep0 KP)); (try have RC := hide (RC.out.keep0 KP)); (try have RD := hide (RD.out.keep0 KP)); have RB := RB0; clear RB0 hb2; clear KP gb; obtain ⟨cb0, cb1, cb2, cb3, cb4, cb5⟩ := CX.out wb GG) | (go_at_call_of 102 (Value.slice yo b yc); refine (scaled_at _ _ b y (byQ x' y (b + K) b) L _ (YR.out.keep0 (gr_none GW3.out (by first | exact gr_none GG (gr_d _) | exact gr_none GG gr_d1 | exact GG))) (BY.out.keep0 (by first | exact gr_none GG (gr_d _) | exact gr_none GG gr_d1 | exact GG)) (by omega) hL YP.out.1 (fun i _ => FC1.out i)).mono ?_; rintro e wc ⟨vc, mc, rfl, hc1, hc2, gc⟩; have emc : b = mc := PL_uniq PC.out hc2; subst emc; have RC0 := hide hc1; obtain ⟨co, cc, rfl, _, _, _⟩ := hc1; have KP := gr_none (by first | exact gr_d _ | exact gr_d1 | exact gr_refl _ _) gc; have GG : w6.grownBy wc none := gr_none (by first | exact gr_none GG (gr_d _) | exact gr_none GG gr_d1 | exact GG) gc; (try have FA := hide (FA.out.keep0 KP)); (try have RB := hide (RB.out.keep0 KP)); (try have RD := hide (RD.out.keep0 KP)); have RC := RC0; clear RC0 hc2; clear KP gc; obtain ⟨cc0, cc1, cc2, cc3, cc4, cc5⟩ := CX.out wc GG) | (go_at_call 105; (try rw [HSUB.out]); refine (raised_at _ b K (fun i => byQ x' y (b + K) b * y i) L _ (RC.out.keep0 (by first | exact gr_d _ | exact gr_d1 | exact gr_refl _ _)) PC.out hb0 (by omega) (by omega)).mono ?_; rintro e wd ⟨vd, rfl, hd1, gd⟩; have RD0 := hide hd1; obtain ⟨do1, dc1, rfl, _, _, _⟩ := hd1; have KP := gr_none (by first | exact gr_d _ | exact gr_d1 | exact gr_refl _ _) gd; have GG : w6.grownBy wd none := gr_none (by first | exact gr_none GG (gr_d _) | exact gr_none GG gr_d1 | exact GG) gd; (try have FA := hide (FA.out.keep0 KP)); (try have RB := hide (RB.out.keep0 KP)); (try have RC := hide (RC.out.keep0 KP)); have RD := RD0; clear RD0; clear KP gd; obtain ⟨cd0, cd1, cd2, cd3, cd4, cd5⟩ := CX.out wd GG) | (go_at_call 104; refine (pminus_at _ _ (b + K) (K + b) (fun i => qabs (y (b - 1)) * x' i) (raiseP (fun i => byQ x' y (b + K) b * y i) K) L _ (RB.out.keep0 (by first | exact gr_d _ | exact gr_d1 | exact gr_refl _ _)) (RD.out.keep0 (by first | exact gr_d _ | exact gr_d1 | exact gr_refl _ _)) (by omega) (by omega) PB.out.1 PD.out hL (fun i => FE1.out i)).mono ?_; rintro e we ⟨ve, me, rfl, he1, he2, ge⟩; have RE0 := hide he1; have PE := hide he2; obtain ⟨eo, ec, rfl, _, _, _⟩ := he1; have KP := gr_none (by first | exact gr_d _ | exact gr_d1 | exact gr_refl _ _) ge; have GG : w6.grownBy we none := gr_none (by first | exact gr_none GG (gr_d _) | exact gr_none GG gr_d1 | exact GG) ge; (try have FA := hide (FA.out.keep0 KP)); (try have RB := hide (RB.out.keep0 KP)); (try have RC := hide (RC.out.keep0 KP)); (try have RD := hide (RD.out.keep0 KP)); have RE := RE0; clear RE0 he2; clear KP ge; obtain ⟨ce0, ce1, ce2, ce3, ce4, ce5⟩ := CX.out we GG))
        all_goals
          have HGG := hide GG
          clear GG
          go_wp2
          go_roundw
          case rel =>
            have hst : (fun i => qabs (y (b - 1)) * x' i - raiseP (fun i => byQ x' y (b + K) b * y i) K i) = stepP x' (b + K) y b := step_form x' y b K
            have PE' := PE.out
            have RE' := RE.out
            rw [hst] at PE' RE'
            have hle := step_len XP.out YP.out hb0 (Nat.le_add_right b K) PE'
            obtain ⟨q1, q2⟩ := NB.out _ hle
            refine ⟨_, _, _, (by first | exact RE' | exact RE'.keep0 gr_d1 | exact RE'.keep0 (gr_d _)), PE', step_whl XW.out YW.out, q1, q2, by omega, fun r c h => XL.out r c (.more _ _ _ _ _ (Nat.le_add_right b K) PE' h), ?_⟩
            exact gr_none (gr_none L2.out GW4.out) (gr_none HGG.out (by first | exact gr_d _ | exact gr_d1 | exact gr_refl _ _))
          case measure =>
            have hst : (fun i => qabs (y (b - 1)) * x' i - raiseP (fun i => byQ x' y (b + K) b * y i) K i) = stepP x' (b + K) y b := step_form x' y b K
            have PE' := PE.out
            rw [hst] at PE'
            have hle := step_len XP.out YP.out hb0 (Nat.le_add_right b K) PE'
            simp [lenOf]
            omega
      · have hs1 : ¬ (y (b - 1)).num.sign < 0 := by
          intro h
          exact hneg (qneg_iff.1 (by
            rcases Int.lt_trichotomy (y (b - 1)).num 0 with h2 | h2 | h2
            · exact h2
            · rw [h2] at h; simp at h
            · rw [Int.sign_eq_one_of_pos h2] at h; omega))
        have eby : Hid (byQ x' y (b + K) b = x' (b + K - 1)) := by unfold byQ; exact if_neg hneg
        clear hneg
        generalize (y (b - 1)).num.sign = sg at hs1 ⊢
        go_upto_region 6 with fail
        have BY : Hid (FQ w4 (.agg #[.bool (rB (byQ x' y (b + K) b)), .slice po pl pc, .slice po2 pl2 pc2]) (byQ x' y (b + K) b) L) := by rw [eby.out]; exact BF.out.keep0 G4.out
        have BC : Hid (w4.cell? ⟨bb, 0, none⟩ = some (.bool (rB (byQ x' y (b + K) b))) ∧ w4.cell? ⟨bb, 1, none⟩ = some (.slice po pl pc) ∧ w4.cell? ⟨bb, 2, none⟩ = some (.slice po2 pl2 pc2)) := by
          rw [eby.out]
          exact BC3.out
        have LC := LC4
        have LS := hide (LSW.out.keep0 G4.out)
        have XR4 := hide (XR.out.keep0 G4.out)
        have GW4 := hide (gr_none G3.out G4.out)
        have GW3 : Hid (w.grownBy w4 none) := gr_none GW.out (gr_none L2.out GW4.out)
        clear hs1 BR4 BR XR LSW LC3 LC4 G4 G3 BF XR0
        have CX : Hid (∀ wx, w4.grownBy wx none → wx.cell? ⟨bl, 0, none⟩ = some (.bool (rB (y (b - 1)))) ∧ wx.cell? ⟨bl, 1, none⟩ = some (.slice lo ll lc) ∧ wx.cell? ⟨bl, 2, none⟩ = some (.slice lo2 ll2 lc2) ∧ wx.cell? ⟨bb, 0, none⟩ = some (.bool (rB (byQ x' y (b + K) b))) ∧ wx.cell? ⟨bb, 1, none⟩ = some (.slice po pl pc) ∧ wx.cell? ⟨bb, 2, none⟩ = some (.slice po2 pl2 pc2)) := by
          intro wx hg
          obtain ⟨k0, k1, k2⟩ := LC.out
          obtain ⟨k3, k4, k5⟩ := BC.out
          exact ⟨hg.cell k0 (by simp), hg.cell k1 (by simp), hg.cell k2 (by simp), hg.cell k3 (by simp), hg.cell k4 (by simp), hg.cell k5 (by simp)⟩
        have GG : w4.grownBy w4 none := gr_refl _ _
        obtain ⟨s0, s1, s2, s3, s4, s5⟩ := CX.out w4 GG
        go_region_held3 (fun w' => w'.cell? ⟨bl, 0, none⟩ = some (.bool (rB (y (b - 1)))) ∧ w'.cell? ⟨bl, 1, none⟩ = some (.slice lo ll lc) ∧ w'.cell? ⟨bl, 2, none⟩ = some (.slice lo2 ll2 lc2) ∧ w'.cell? ⟨bb, 0, none⟩ = some (.bool (rB (byQ x' y (b + K) b))) ∧ w'.cell? ⟨bb, 1, none⟩ = some (.slice po pl pc) ∧ w'.cell? ⟨bb, 2, none⟩ = some (.slice po2 pl2 pc2)) (go_keep)
          (first | (go_at_call 103; refine (qabs_at _ (y (b - 1)) L _ (LS.out.keep0 (by first | exact gr_none GG (gr_d _) | exact gr_none GG gr_d1 | exact GG))).mono ?_; rintro e wa ⟨va, rfl, fa, ga⟩; obtain ⟨ao, al, ac, ao2, al2, ac2, rfl⟩ := fa.shape; have KP := gr_none (by first | exact gr_d _ | exact gr_d1 | exact gr_refl _ _) ga; have GG : w4.grownBy wa none := gr_none (by first | exact gr_none GG (gr_d _) | exact gr_none GG gr_d1 | exact GG) ga; (try have RB := hide (RB.out.keep0 KP)); (try have RC := hide (RC.out.keep0 KP)); (try have RD := hide (RD.out.keep0 KP)); have FA := hide fa; clear fa; clear KP ga; obtain ⟨ca0, ca1, ca2, ca3, ca4, ca5⟩ := CX.out wa GG) | (go_at_call_of 102 (Value.slice xo (b + K) xc); refine (scaled_at _ _ (b + K) x' (qabs (y (b - 1))) L _ (XR4.out.keep0 (by first | exact gr_none GG (gr_d _) | exact gr_none GG gr_d1 | exact GG)) (FA.out.keep0 (by first | exact gr_d _ | exact gr_d1 | exact gr_refl _ _)) (by omega) hL XP.out.1 (fun i _ => FB1.out i)).mono ?_; rintro e wb ⟨vb, mb, rfl, hb1, hb2, gb⟩; have emb : mb = b + K := PL_uniq hb2 PB.out; subst emb; have RB0 := hide hb1; obtain ⟨bo, bc, rfl, _, _, _⟩ := hb1; have KP := gr_none (by first | exact gr_d _ | exact gr_d1 | exact gr_refl _ _) gb; have GG : w4.grownBy wb none := gr_none (by first | exact gr_none GG (gr_d _) | exact gr_none GG gr_d1 | exact GG) gb; (try have FA := hide (FA.out.keep0 KP)); (try have RC := hide (RC.out.keep0 KP)); (try have RD := hide (RD.out.keep0 KP)); have RB := RB0; clear RB0 hb2; clear KP gb; obtain ⟨cb0, cb1, cb2, cb3, cb4, cb5⟩ := CX.out wb GG) | (go_at_call_of 102 (Value.slice yo b yc); refine (scaled_at _ _ b y (byQ x' y (b + K) b) L _ (YR.out.keep0 (gr_none GW3.out (by first | exact gr_none GG (gr_d _) | exact gr_none GG gr_d1 | exact GG))) (BY.out.keep0 (by first | exact gr_none GG (gr_d _) | exact gr_none GG gr_d1 | exact GG)) (by omega) hL YP.out.1 (fun i _ => FC1.out i)).mono ?_; rintro e wc ⟨vc, mc, rfl, hc1, hc2, gc⟩; have emc : b = mc := PL_uniq PC.out hc2; subst emc; have RC0 := hide hc1; obtain ⟨co, cc, rfl, _, _, _⟩ := hc1; have KP := gr_none (by first | exact gr_d _ | exact gr_d1 | exact gr_refl _ _) gc; have GG : w4.grownBy wc none := gr_none (by first | exact gr_none GG (gr_d _) | exact gr_none GG gr_d1 | exact GG) gc; (try have FA := hide (FA.out.keep0 KP)); (try have RB := hide (RB.out.keep0 KP)); (try have RD := hide (RD.out.keep0 KP)); have RC := RC0; clear RC0 hc2; clear KP gc; obtain ⟨cc0, cc1, cc2, cc3, cc4, cc5⟩ := CX.out wc GG) | (go_at_call 105; (try rw [HSUB.out]); refine (raised_at _ b K (fun i => byQ x' y (b + K) b * y i) L _ (RC.out.keep0 (by first | exact gr_d _ | exact gr_d1 | exact gr_refl _ _)) PC.out hb0 (by omega) (by omega)).mono ?_; rintro e wd ⟨vd, rfl, hd1, gd⟩; have RD0 := hide hd1; obtain ⟨do1, dc1, rfl, _, _, _⟩ := hd1; have KP := gr_none (by first | exact gr_d _ | exact gr_d1 | exact gr_refl _ _) gd; have GG : w4.grownBy wd none := gr_none (by first | exact gr_none GG (gr_d _) | exact gr_none GG gr_d1 | exact GG) gd; (try have FA := hide (FA.out.keep0 KP)); (try have RB := hide (RB.out.keep0 KP)); (try have RC := hide (RC.out.keep0 KP)); have RD := RD0; clear RD0; clear KP gd; obtain ⟨cd0, cd1, cd2, cd3, cd4, cd5⟩ := CX.out wd GG) | (go_at_call 104; refine (pminus_at _ _ (b + K) (K + b) (fun i => qabs (y (b - 1)) * x' i) (raiseP (fun i => byQ x' y (b + K) b * y i) K) L _ (RB.out.keep0 (by first | exact gr_d _ | exact gr_d1 | exact gr_refl _ _)) (RD.out.keep0 (by first | exact gr_d _ | exact gr_d1 | exact gr_refl _ _)) (by omega) (by omega) PB.out.1 PD.out hL (fun i => FE1.out i)).mono ?_; rintro e we ⟨ve, me, rfl, he1, he2, ge⟩; have RE0 := hide he1; have PE := hide he2; obtain ⟨eo, ec, rfl, _, _, _⟩ := he1; have KP := gr_none (by first | exact gr_d _ | exact gr_d1 | exact gr_refl _ _) ge; have GG : w4.grownBy we none := gr_none (by first | exact gr_none GG (gr_d _) | exact gr_none GG gr_d1 | exact GG) ge; (try have FA := hide (FA.out.keep0 KP)); (try have RB := hide (RB.out.keep0 KP)); (try have RC := hide (RC.out.keep0 KP)); (try have RD := hide (RD.out.keep0 KP)); have RE := RE0; clear RE0 he2; clear KP ge; obtain ⟨ce0, ce1, ce2, ce3, ce4, ce5⟩ := CX.out we GG))
        all_goals
          have HGG := hide GG
          clear GG
          go_wp2
          go_roundw
          case rel =>
            have hst : (fun i => qabs (y (b - 1)) * x' i - raiseP (fun i => byQ x' y (b + K) b * y i) K i) = stepP x' (b + K) y b := step_form x' y b K
            have PE' := PE.out
            have RE' := RE.out
            rw [hst] at PE' RE'
            have hle := step_len XP.out YP.out hb0 (Nat.le_add_right b K) PE'
            obtain ⟨q1, q2⟩ := NB.out _ hle
            refine ⟨_, _, _, (by first | exact RE' | exact RE'.keep0 gr_d1 | exact RE'.keep0 (gr_d _)), PE', step_whl XW.out YW.out, q1, q2, by omega, fun r c h => XL.out r c (.more _ _ _ _ _ (Nat.le_add_right b K) PE' h), ?_⟩
            exact gr_none (gr_none L2.out GW4.out) (gr_none HGG.out (by first | exact gr_d _ | exact gr_d1 | exact gr_refl _ _))
          case measure =>
            have hst : (fun i => qabs (y (b - 1)) * x' i - raiseP (fun i => byQ x' y (b + K) b * y i) K i) = stepP x' (b + K) y b := step_form x' y b K
            have PE' := PE.out
            rw [hst] at PE'
            have hle := step_len XP.out YP.out hb0 (Nat.le_add_right b K) PE'
            simp [lenOf]
            omega
end Go.Proofs.YtklkpkkjakllfaaGreatDoor
