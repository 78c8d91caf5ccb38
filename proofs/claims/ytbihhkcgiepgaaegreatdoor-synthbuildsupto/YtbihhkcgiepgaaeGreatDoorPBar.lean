/- poly: Bar of a number, bar of a polynomial, and what Times does to each number at its end. -/
import Derived.Test.YtbihhkcgiepgaaeGreatDoorMYc
namespace Go.Proofs.YtbihhkcgiepgaaeGreatDoor
open Go.RowKit
set_option linter.unusedVariables false
set_option linter.unusedSimpArgs false

set_option maxHeartbeats 4000000 in
theorem fBar_at (x : Value) (neg : Bool) (n d L : Nat) (w : World) (hx : FV w x neg n d L) :
    Calls Tryz.prog 245 #[x] w fun e w' => LowE w false d 1 (L + 1) e w' := by
  have HX := hide hx
  obtain ⟨uo, ul, uc, do_, dl, dc, rfl⟩ := hx.shape
  clear hx
  obtain ⟨W, hW⟩ : ∃ W, W = (w.alloc (Obj.cells #[.bool neg, .slice uo ul uc, .slice do_ dl dc] 107)).alloc (Obj.cells #[.bool false, .slice none 0 0, .slice none 0 0] 107) := ⟨_, rfl⟩
  have GW : Hid (w.grownBy W none) := by rw [hW]; exact gr_alloc (gr_alloc (gr_refl _ _) _) _
  have CELLS : Hid (∀ wx, W.grownBy wx none → (wx.cell? ⟨w.heap.size + 1, 0, none⟩ = some (.bool false) ∧ wx.cell? ⟨w.heap.size + 1, 1, none⟩ = some (.slice none 0 0) ∧ wx.cell? ⟨w.heap.size + 1, 2, none⟩ = some (.slice none 0 0) ∧ ∀ i, wx.frozen? ⟨w.heap.size + 1, i, none⟩ = false)) := by
    intro wx hg
    rw [hW] at hg
    have a3 := res_cells hg
    have e3 : (w.alloc (Obj.cells #[.bool neg, .slice uo ul uc, .slice do_ dl dc] 107)).heap.size = w.heap.size + 1 := by simp
    rw [e3] at a3
    exact a3
  have NW : Hid (∀ wx, W.grownBy wx none → NoWords wx (w.heap.size + 1)) := by
    intro wx hg
    rw [hW] at hg
    have := noWords_res hg
    simpa using this
  go_enter Tryz.func245, Tryz.ntmps245
  go_wp2_with fail
  rw [← hW]
  refine (bar_at _ neg n d L W (HX.out.keep0 GW.out)).mono ?_
  rintro e w2 ⟨v, rfl, k1, k2⟩
  obtain ⟨vo, vl, vc, rfl, _, _, _⟩ := k1.shape
  obtain ⟨r0, r1, r2, rf⟩ := CELLS.out w2 k2
  have rf0 := rf 0
  have rf1 := rf 1
  have rf2 := rf 2
  have K1 := hide k1
  have K2 := hide k2
  clear rf k1 k2 hW
  go_wp2
  refine bodyPost_ret (v := .agg #[.bool false, .slice vo vl vc, .slice none 0 0]) (by simp [results, Tryz.results245, go_sem, r0, r1, r2]) rfl ?_
  refine ⟨_, rfl, ?_, gr_set (gr_set (gr_set (gr_none GW.out K2.out) _ _ (by simp)) _ _ (by simp)) _ _ (by simp)⟩
  have hF : FV w2 (.agg #[.bool false, .slice vo vl vc, .slice none 0 0]) false d 1 (L + 1) := ⟨_, _, rfl, K1.out, .inl ⟨rfl, rfl⟩, by simp, by simp⟩
  exact hF.other (NW.out w2 K2.out) gr_three

theorem qBar_at (x : Value) (q : Rat) (L : Nat) (w : World) (hx : FQ w x q L) (b : Rat) (hb : Hid (b = ((q.den : Nat) : Rat))) :
    Calls Tryz.prog 245 #[x] w fun e w' => FQE w b (L + 1) e w' := by
  refine (fBar_at x _ _ _ L w hx).mono ?_
  rintro e w' ⟨v, rfl, h1, h2⟩
  refine ⟨v, rfl, ?_, h2⟩
  have e1 : rB b = false := by rw [hb.out]; unfold rB; rw [Rat.num_natCast]; simp
  have e2 : rN b = q.den := by rw [hb.out]; unfold rN; rw [Rat.num_natCast]; rfl
  have e3 : b.den = 1 := by rw [hb.out]; exact Rat.den_natCast _
  unfold FQ
  rw [e1, e2, e3]
  exact h1

/-- What makes the first numbers whole. -/
def barP (p : Nat → Rat) : Nat → Rat
  | 0 => 1
  | i + 1 => barP p i * (((p i * barP p i).den : Nat) : Rat)

theorem barP_whole {p : Nat → Rat} (h : ∀ i, (p i).den = 1) : ∀ n, barP p n = 1
  | 0 => rfl
  | n + 1 => by
    rw [barP, barP_whole h n, Rat.mul_one, h n, Rat.one_mul]
    rfl

def BarR (w : World) (bs n : Nat) (p : Nat → Rat) (L : Nat) (v : Value) (wr : World) : Prop :=
  ∃ i : Nat, i ≤ n ∧ v = .int .i64 i ∧ FRow wr bs 1 (fun _ => barP p i) L ∧ w.grownBy wr none

set_option maxHeartbeats 4000000 in
set_option maxRecDepth 10000 in
theorem pbar_at (x : Value) (n : Nat) (p : Nat → Rat) (L : Nat) (w : World) (hx : Rw w x n p L) (hn : n ≤ 3000) (hL2 : 2 ≤ L) (hL : L ≤ 100000000000) (hfit : ∀ i, i ≤ n → FitW L (barP p i)) (hml : MLen w) :
    Calls Tryz.prog 230 #[x] w fun e w' => FQE w (barP p n) L e w' := by
  have HX := hide hx
  have HF := hide hfit
  have HM := hide hml
  obtain ⟨xo, xc, rfl, hc, hm, _⟩ := hx
  unfold maxLen at hm
  clear hfit hml
  obtain ⟨W, hW⟩ : ∃ W, W = w.alloc (Obj.cells #[.bool false, .slice none 0 0, .slice none 0 0] 107) := ⟨_, rfl⟩
  have GW : Hid (w.grownBy W none) := by rw [hW]; exact gr_alloc (gr_refl _ _) _
  have hWs : W.heap.size = w.heap.size + 1 := by rw [hW]; simp
  have RES : Hid (∀ wx, W.grownBy wx none → (wx.cell? ⟨w.heap.size, 0, none⟩ = some (.bool false) ∧ wx.cell? ⟨w.heap.size, 1, none⟩ = some (.slice none 0 0) ∧ wx.cell? ⟨w.heap.size, 2, none⟩ = some (.slice none 0 0) ∧ ∀ i, wx.frozen? ⟨w.heap.size, i, none⟩ = false) ∧ NoWords wx w.heap.size) := by
    intro wx hg
    rw [hW] at hg
    exact ⟨res_cells hg, noWords_res hg⟩
  go_enter Tryz.func230, Tryz.ntmps230
  go_upto_region 1 with fail
  rw [← hW]
  clear hW
  go_wp2_with fail
  refine (ofOne_at L W hL2 (HM.out.keep0 GW.out)).mono ?_
  rintro e w1 ⟨v1, rfl, a1, a2⟩
  obtain ⟨uo, ul, uc, vo, vl, vc, rfl⟩ := a1.shape
  have A1 := hide a1
  have A2 := hide a2
  clear a1 a2
  go_upto_region 2 with fail
  obtain ⟨bs, hbs⟩ : ∃ bs, bs = w1.heap.size := ⟨_, rfl⟩
  obtain ⟨w2, hw2⟩ : ∃ w2, w2 = w1.alloc (Obj.cells #[.bool (rB 1), .slice uo ul uc, .slice vo vl vc] 107) := ⟨_, rfl⟩
  have G2 : Hid (W.grownBy w2 none) := by rw [hw2]; exact gr_none A2.out (gr_alloc (gr_refl _ _) _)
  have S0 : Hid (FRow w2 bs 1 (fun _ => barP p 0) L) := by
    rw [hw2, hbs]
    refine ⟨_, _, heap_alloc_new w1 _, fun i hi => ?_⟩
    obtain rfl : i = 0 := by omega
    exact ⟨_, _, rfl, rfl, rfl, A1.out.keep0 (gr_alloc (gr_refl _ _) _)⟩
  have hbw : w.heap.size < bs := by have := A2.out.size; omega
  have hbW : W.heap.size ≤ bs := by have := A2.out.size; omega
  rw [← hw2, ← hbs]
  clear hw2 hbs
  go_wp2
  go_loopw [9] (fun v wr => Hid (BarR W bs n p L v wr)) (fun v _ => n - (intOf v).toNat)
  case atStart => exact ⟨0, by omega, rfl, S0.out, G2.out⟩
  case round =>
    obtain ⟨i, hi, rfl, l1, l2⟩ := hrel.out
    have L1 := hide l1
    have L2 := hide l2
    clear l1 l2 hrel
    by_cases hlt : i < n
    · obtain ⟨ao, c, e, h1, h2, h3⟩ := HX.out
      simp only [Value.slice.injEq, true_and] at e
      obtain ⟨ex1, ex2⟩ := e
      obtain ⟨gx, ex3, hr⟩ := h3 (by omega)
      have hgl := hr.lt
      subst ex2 ex1 ex3
      obtain ⟨yo, yl, yc, zo, zl, zc, c0, c1, c2, c3, _⟩ := (hr.keep0 (gr_none GW.out L2.out)).at i hlt
      have C3 := hide c3
      clear c3 hr h1 h2 h3
      go_upto_region 5 with fail
      obtain ⟨w3, hw3⟩ : ∃ w3, w3 = wr.alloc (Obj.cells #[.bool (rB (p i)), .slice yo yl yc, .slice zo zl zc] 107) := ⟨_, rfl⟩
      have G3 : Hid (wr.grownBy w3 none) := by rw [hw3]; exact gr_alloc (gr_refl _ _) _
      have XC : Hid (∀ wx, w3.grownBy wx none → wx.cell? ⟨wr.heap.size, 0, none⟩ = some (.bool (rB (p i))) ∧ wx.cell? ⟨wr.heap.size, 1, none⟩ = some (.slice yo yl yc) ∧ wx.cell? ⟨wr.heap.size, 2, none⟩ = some (.slice zo zl zc)) := by
        intro wx hg
        rw [hw3] at hg
        exact box_three hg
      rw [← hw3]
      clear hw3 c0 c1 c2
      obtain ⟨q, hq⟩ : ∃ q, q = barP p i := ⟨_, rfl⟩
      obtain ⟨d, hd⟩ : ∃ d : Rat, d = (((p i * q).den : Nat) : Rat) := ⟨_, rfl⟩
      have HD := hide hd
      have HQD : Hid (q * d = barP p (i + 1)) := by show _ = _; rw [hd, hq]; rfl
      rw [← hq] at L1
      clear hq hd
      have F3 := hide (L1.out.keep0 G3.out)
      obtain ⟨so, sl, sc, so2, sl2, sc2, d0, d1, d2, d3, _⟩ := F3.out.at 0 (by omega)
      simp only [Nat.zero_mul, Nat.zero_add] at d0 d1 d2
      have D3 := hide d3
      have hbl := L1.out.lt
      have CX : Hid (∀ wx, w3.grownBy wx none → (wx.cell? ⟨bs, 0, none⟩ = some (.bool (rB q)) ∧ wx.cell? ⟨bs, 1, none⟩ = some (.slice so sl sc) ∧ wx.cell? ⟨bs, 2, none⟩ = some (.slice so2 sl2 sc2)) ∧ ∀ j, wx.frozen? ⟨bs, j, none⟩ = false) := by
        intro wx hg
        obtain ⟨_, _, _, _, _, _, _, _, _, _, df⟩ := (F3.out.keep0 hg).at 0 (by omega)
        exact ⟨⟨hg.cell d0 (by simp), hg.cell d1 (by simp), hg.cell d2 (by simp)⟩, df⟩
      clear d0 d1 d2 d3
      have GG : w3.grownBy w3 none := gr_refl _ _
      obtain ⟨⟨s0, s1, s2⟩, _⟩ := CX.out w3 GG
      obtain ⟨x0, x1, x2⟩ := XC.out w3 GG
      have hn1 : wr.heap.size ≠ bs := by omega
      have hn2 : bs ≠ wr.heap.size := by omega
      go_region_with
        (first
          | (go_at_call_of 139 (Value.agg #[.bool (rB (p i)), .slice yo yl yc, .slice zo zl zc]); refine (qTimes_at _ _ (p i) q L L _ (C3.out.keep0 (gr_none G3.out (by first | exact gr_none GG (gr_d _) | exact gr_none GG gr_d1 | exact GG))) (D3.out.keep0 (by first | exact gr_none GG (gr_d _) | exact gr_none GG gr_d1 | exact GG)) (by omega)).mono ?_; rintro e wa ⟨va, rfl, fa, ga⟩; obtain ⟨ao, al, ac, ao2, al2, ac2, rfl⟩ := fa.shape; have FA := hide fa; have GG : w3.grownBy wa none := gr_none (by first | exact gr_none GG (gr_d _) | exact gr_none GG gr_d1 | exact GG) ga; obtain ⟨⟨a0, a1, a2⟩, _⟩ := CX.out wa GG; obtain ⟨z0, z1, z2⟩ := XC.out wa GG; clear fa ga)
          | (go_at_call 245; refine (qBar_at _ (p i * q) (L + L + 1) _ (FA.out.keep0 (by first | exact gr_d _ | exact gr_d1 | exact gr_refl _ _)) d HD).mono ?_; rintro e wb ⟨vb, rfl, fb, gb⟩; obtain ⟨bo, bl, bc, bo2, bl2, bc2, rfl⟩ := fb.shape; have FB := hide fb; have GG : w3.grownBy wb none := gr_none (by first | exact gr_none GG (gr_d _) | exact gr_none GG gr_d1 | exact GG) gb; obtain ⟨⟨b0, b1, b2⟩, _⟩ := CX.out wb GG; obtain ⟨y0, y1, y2⟩ := XC.out wb GG; clear fb gb)
          | (go_at_call_of 139 (Value.agg #[.bool (rB q), .slice so sl sc, .slice so2 sl2 sc2]); refine (qTimes_at _ _ q d L (L + L + 1 + 1) _ (D3.out.keep0 (by first | exact gr_none GG (gr_d _) | exact gr_none GG gr_d1 | exact GG)) (FB.out.keep0 (by first | exact gr_d _ | exact gr_d1 | exact gr_refl _ _)) (by omega)).mono ?_; rintro e wf ⟨v6, rfl, f1, f2⟩; obtain ⟨fo, fl, fc, fo2, fl2, fc2, rfl⟩ := f1.shape; have GG : w3.grownBy wf none := gr_none (by first | exact gr_none GG (gr_d _) | exact gr_none GG gr_d1 | exact GG) f2; obtain ⟨⟨e0, e1, e2⟩, rf⟩ := CX.out wf GG; obtain ⟨q0, q1, q2⟩ := XC.out wf GG; have rf0 := rf 0; have rf1 := rf 1; have rf2 := rf 2; clear rf))
      all_goals
        rw [HQD.out] at f1 ⊢
        have G6 := gr_none G3.out GG
        have S6 := (F3.out.keep0 GG).set 0 (by omega) (f1.tight (HF.out (i + 1) (by omega)))
        simp only [Nat.zero_mul, Nat.zero_add] at S6
        obtain ⟨r1', r2', r3'⟩ := S6
        have gall := gr_own2 (gr_none L2.out G6) r2' (fun b e => by cases e; exact hbW)
        generalize (((_ : World).setCell ⟨bs, 0, none⟩ (.bool (rB (barP p (i + 1))))).setCell ⟨bs, 1, none⟩ (.slice fo fl fc)).setCell ⟨bs, 2, none⟩ (.slice fo2 fl2 fc2) = W6 at r1' r2' r3' gall ⊢
        have R1 : Hid (FRow W6 bs 1 (fun _ => barP p (i + 1)) L) := r1'.congr (fun j hj => by obtain rfl : j = 0 := by omega
                                                                                              rfl)
        have R3 := hide gall
        clear r1' r2' r3' gall f1 f2 e0 e1 e2 q0 q1 q2 rf0 rf1 rf2 GG G6
        go_wp2
        go_roundw
        case rel => exact ⟨i + 1, by omega, by go_num, R1.out, R3.out⟩
        case measure => simp [intOf]; omega
    · obtain rfl : i = n := by omega
      obtain ⟨so, sl, sc, so2, sl2, sc2, d0, d1, d2, d3, _⟩ := L1.out.at 0 (by omega)
      simp only [Nat.zero_mul, Nat.zero_add] at d0 d1 d2
      have D3 := hide d3
      obtain ⟨⟨r0, r1, r2, rf⟩, nw⟩ := RES.out wr L2.out
      have rf0 := rf 0
      have rf1 := rf 1
      have rf2 := rf 2
      have NW := hide nw
      have hn1 : w.heap.size ≠ bs := by omega
      have hn2 : bs ≠ w.heap.size := by omega
      clear rf nw d3
      go_wp2
      refine bodyPost_ret (v := .agg #[.bool (rB (barP p i)), .slice so sl sc, .slice so2 sl2 sc2]) (by first | (simp [results, Tryz.results230, go_sem, r0, r1, r2]; done) | (simp [results, Tryz.results230, go_sem, r0, r1, r2]; rfl)) rfl ?_
      exact ⟨_, rfl, FV.other D3.out NW.out gr_three, gr_set (gr_set (gr_set (gr_none GW.out L2.out) _ _ (by simp)) _ _ (by simp)) _ _ (by simp)⟩

theorem entTimes1 : Ent 231 := Go.Proofs.enters_of Tryz.func231 (by kernel_rfl) rfl

set_option maxHeartbeats 4000000 in
set_option maxRecDepth 10000 in
theorem times1_at (b1 b2 : Nat) (v : Value) (p x y : Rat) (L : Nat) (w : World) (h1 : FRow w b1 1 (fun _ => x) L) (h2 : FRow w b2 1 (fun _ => y) L) (hv : FQ w v p L) (hxy : x * y ≠ 0) (hL : L ≤ 100000000000) (hfit : FitW L (p / (x * y))) :
    Calls Tryz.prog 231 #[v, .pointer (some ⟨b1, 0, none⟩), .pointer (some ⟨b2, 0, none⟩)] w fun e w' => FQE w (p / (x * y)) L e w' := by
  have HV := hide hv
  have HF := hide hfit
  have HQ := hide hxy
  obtain ⟨vo, vl, vc, xo, xl, xc, rfl⟩ := hv.shape
  have hl1 := h1.lt
  have hl2 := h2.lt
  obtain ⟨uo, ul, uc, do_, dl, dc, c0, c1, c2, c3, _⟩ := h1.at 0 (by omega)
  obtain ⟨uo2, ul2, uc2, do2, dl2, dc2, d0, d1, d2, d3, _⟩ := h2.at 0 (by omega)
  simp only [Nat.zero_mul, Nat.zero_add] at c0 c1 c2 d0 d1 d2
  have C3 := hide c3
  have D3 := hide d3
  clear hv hfit hxy c3 d3 h1 h2
  obtain ⟨W, hW⟩ : ∃ W, W = (w.alloc (Obj.cells #[.bool (rB p), .slice vo vl vc, .slice xo xl xc] 107)).alloc (Obj.cells #[.bool false, .slice none 0 0, .slice none 0 0] 107) := ⟨_, rfl⟩
  have GW : Hid (w.grownBy W none) := by rw [hW]; exact gr_alloc (gr_alloc (gr_refl _ _) _) _
  have CX : Hid (∀ wx, W.grownBy wx none → (wx.cell? ⟨w.heap.size, 0, none⟩ = some (.bool (rB p)) ∧ wx.cell? ⟨w.heap.size, 1, none⟩ = some (.slice vo vl vc) ∧ wx.cell? ⟨w.heap.size, 2, none⟩ = some (.slice xo xl xc)) ∧ (wx.cell? ⟨b1, 0, none⟩ = some (.bool (rB x)) ∧ wx.cell? ⟨b1, 1, none⟩ = some (.slice uo ul uc) ∧ wx.cell? ⟨b1, 2, none⟩ = some (.slice do_ dl dc)) ∧ (wx.cell? ⟨b2, 0, none⟩ = some (.bool (rB y)) ∧ wx.cell? ⟨b2, 1, none⟩ = some (.slice uo2 ul2 uc2) ∧ wx.cell? ⟨b2, 2, none⟩ = some (.slice do2 dl2 dc2))) := by
    intro wx hg
    have hg2 := gr_none GW.out hg
    rw [hW] at hg
    exact ⟨box_three (gr_none (gr_alloc (gr_refl _ none) _) hg), ⟨hg2.cell c0 (by simp), hg2.cell c1 (by simp), hg2.cell c2 (by simp)⟩, hg2.cell d0 (by simp), hg2.cell d1 (by simp), hg2.cell d2 (by simp)⟩
  have RES : Hid (∀ wx, W.grownBy wx none → (wx.cell? ⟨w.heap.size + 1, 0, none⟩ = some (.bool false) ∧ wx.cell? ⟨w.heap.size + 1, 1, none⟩ = some (.slice none 0 0) ∧ wx.cell? ⟨w.heap.size + 1, 2, none⟩ = some (.slice none 0 0) ∧ ∀ i, wx.frozen? ⟨w.heap.size + 1, i, none⟩ = false) ∧ NoWords wx (w.heap.size + 1)) := by
    intro wx hg
    rw [hW] at hg
    have a3 := res_cells hg
    have a4 := noWords_res hg
    have e3 : (w.alloc (Obj.cells #[.bool (rB p), .slice vo vl vc, .slice xo xl xc] 107)).heap.size = w.heap.size + 1 := by simp
    rw [e3] at a3 a4
    exact ⟨a3, a4⟩
  clear c0 c1 c2 d0 d1 d2
  have GG : W.grownBy W none := gr_refl _ _
  obtain ⟨⟨s0, s1, s2⟩, ⟨s3, s4, s5⟩, s6, s7, s8⟩ := CX.out W GG
  have n1 : w.heap.size + 1 ≠ w.heap.size := by omega
  have n2 : w.heap.size + 1 ≠ b1 := by omega
  have n3 : w.heap.size + 1 ≠ b2 := by omega
  have n4 : w.heap.size ≠ w.heap.size + 1 := by omega
  have n5 : b1 ≠ w.heap.size + 1 := by omega
  have n6 : b2 ≠ w.heap.size + 1 := by omega
  go_enter Tryz.func231, Tryz.ntmps231
  go_upto_region 1 with fail
  rw [← hW]
  clear hW
  go_region_held3 (fun w' => w'.cell? ⟨w.heap.size, 0, none⟩ = some (.bool (rB p)) ∧ w'.cell? ⟨w.heap.size, 1, none⟩ = some (.slice vo vl vc) ∧ w'.cell? ⟨w.heap.size, 2, none⟩ = some (.slice xo xl xc) ∧ w'.cell? ⟨b1, 0, none⟩ = some (.bool (rB x)) ∧ w'.cell? ⟨b1, 1, none⟩ = some (.slice uo ul uc) ∧ w'.cell? ⟨b1, 2, none⟩ = some (.slice do_ dl dc) ∧ w'.cell? ⟨b2, 0, none⟩ = some (.bool (rB y)) ∧ w'.cell? ⟨b2, 1, none⟩ = some (.slice uo2 ul2 uc2) ∧ w'.cell? ⟨b2, 2, none⟩ = some (.slice do2 dl2 dc2)) (go_keep)
    (first
      | (go_at_call 139; refine (qTimes_at _ _ x y L L _ (C3.out.keep0 (gr_none GW.out (by first | exact gr_none GG (gr_d _) | exact gr_none GG gr_d1 | exact GG))) (D3.out.keep0 (gr_none GW.out (by first | exact gr_none GG (gr_d _) | exact gr_none GG gr_d1 | exact GG))) (by omega)).mono ?_; rintro e wa ⟨va, rfl, fa, ga⟩; obtain ⟨ao, al, ac, ao2, al2, ac2, rfl⟩ := fa.shape; have FA := hide fa; have GG : W.grownBy wa none := gr_none (by first | exact gr_none GG (gr_d _) | exact gr_none GG gr_d1 | exact GG) ga; obtain ⟨⟨a0, a1, a2⟩, ⟨a3, a4, a5⟩, a6, a7, a8⟩ := CX.out wa GG; clear fa ga)
      | (go_at_call 137; refine (qOver_at _ _ p (x * y) L (L + L + 1) _ (HV.out.keep0 (gr_none GW.out (by first | exact gr_none GG (gr_d _) | exact gr_none GG gr_d1 | exact GG))) (FA.out.keep0 (by first | exact gr_d _ | exact gr_d1 | exact gr_refl _ _)) HQ.out (by omega)).mono ?_; rintro e wf ⟨v6, rfl, f1, f2⟩; obtain ⟨fo, fl, fc, fo2, fl2, fc2, rfl⟩ := f1.shape; have GG : W.grownBy wf none := gr_none (by first | exact gr_none GG (gr_d _) | exact gr_none GG gr_d1 | exact GG) f2; obtain ⟨⟨e0, e1, e2⟩, ⟨e3, e4, e5⟩, e6, e7, e8⟩ := CX.out wf GG; obtain ⟨⟨r0, r1, r2, rf⟩, nw⟩ := RES.out wf GG; have rf0 := rf 0; have rf1 := rf 1; have rf2 := rf 2; clear rf))
  all_goals
    have F1 := hide (f1.tight HF.out)
    have NW := hide nw
    have HG := hide GG
    clear f1 f2 nw
    go_wp2
    refine bodyPost_ret (v := .agg #[.bool (rB (p / (x * y))), .slice fo fl fc, .slice fo2 fl2 fc2]) (by first | (simp [results, Tryz.results231, go_sem, r0, r1, r2]; done) | (simp [results, Tryz.results231, go_sem, r0, r1, r2]; rfl)) rfl ?_
    exact ⟨_, rfl, FV.other F1.out NW.out gr_three, gr_set (gr_set (gr_set (gr_none GW.out HG.out) _ _ (by simp)) _ _ (by simp)) _ _ (by simp)⟩
end Go.Proofs.YtbihhkcgiepgaaeGreatDoor
