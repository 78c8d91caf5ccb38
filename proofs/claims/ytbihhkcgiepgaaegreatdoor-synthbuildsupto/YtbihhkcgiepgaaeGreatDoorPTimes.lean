/- poly: Times. -/
import Derived.Test.YtbihhkcgiepgaaeGreatDoorPBar
import Derived.Deep.RegionHeld3
namespace Go.Proofs.YtbihhkcgiepgaaeGreatDoor
open Go.RowKit
set_option linter.unusedVariables false
set_option linter.unusedSimpArgs false

/-- The product, as far as the first i numbers of x make it. -/
def cnvR (x y : Nat → Rat) (m : Nat) : Nat → Nat → Rat
  | 0 => fun _ => 0
  | i + 1 => fun j => if i ≤ j ∧ j < i + m then cnvR x y m i j + x i * y (j - i) else cnvR x y m i j

/-- The same, in the midst of a row. -/
def cnvM (x y : Nat → Rat) (m i k : Nat) : Nat → Rat := fun j => if i ≤ j ∧ j < i + k then cnvR x y m i j + x i * y (j - i) else cnvR x y m i j

theorem cnvR_zero {x y : Nat → Rat} {m i : Nat} (h : x i = 0) : cnvR x y m (i + 1) = cnvR x y m i := by
  funext j
  show (if i ≤ j ∧ j < i + m then cnvR x y m i j + x i * y (j - i) else cnvR x y m i j) = _
  split
  · rw [h, Rat.zero_mul, Rat.add_zero]
  · rfl

theorem cnvM_put (x y : Nat → Rat) (m i k j : Nat) : put (cnvM x y m i k) (i + k) (cnvR x y m i (i + k) + x i * y k) j = cnvM x y m i (k + 1) j := by
  unfold put cnvM
  by_cases h : j = i + k
  · rw [if_pos h, if_pos (by omega), h, show i + k - i = k by omega]
  · rw [if_neg h]
    by_cases h2 : i ≤ j ∧ j < i + k
    · rw [if_pos h2, if_pos (by omega)]
    · rw [if_neg h2, if_neg (by omega)]

def TimR (w : World) (x y : Nat → Rat) (n m N bo L : Nat) (v : Value) (wr : World) : Prop :=
  ∃ i : Nat, i ≤ n ∧ v = .int .i64 i ∧ FRow wr bo N (cnvR x y m i) L ∧ w.grownBy wr none

def TiiR (w w9 : World) (x y : Nat → Rat) (m i N bo L : Nat) (v : Value) (wr : World) : Prop :=
  ∃ k : Nat, k ≤ m ∧ v = .int .i64 k ∧ FRow wr bo N (cnvM x y m i k) L ∧ w.grownBy wr none ∧ w9.grownBy wr (some bo) ∧ WKept w9 wr

/-- The product of two polynomials, by their whole multiples. -/
def timP (p q : Nat → Rat) (n m : Nat) : Nat → Rat := fun j => cnvR (fun i => barP p n * p i) (fun i => barP q m * q i) m n j / (barP p n * barP q m)

theorem cnvR_out {x y : Nat → Rat} {m : Nat} : ∀ i j, i + m ≤ j + 1 → cnvR x y m i j = 0
  | 0, _, _ => rfl
  | i + 1, j, h => by
    show (if i ≤ j ∧ j < i + m then cnvR x y m i j + x i * y (j - i) else cnvR x y m i j) = 0
    rw [if_neg (by omega)]
    exact cnvR_out i j (by omega)

set_option maxHeartbeats 8000000 in
set_option maxRecDepth 10000 in
theorem ptimes_at (x y : Value) (n m : Nat) (p q : Nat → Rat) (L : Nat) (w : World) (hx : Rw w x n p L) (hy : Rw w y m q L) (hp : PL p n) (hq : PL q m) (hn0 : 0 < n) (hm0 : 0 < m) (hn : n ≤ 1000) (hm : m ≤ 1000) (hL2 : 2 ≤ L) (hL : L ≤ 100000000000)
    (b1 : ∀ i, i ≤ n → FitW L (barP p i)) (b2 : ∀ i, i ≤ m → FitW L (barP q i)) (hb1 : barP p n ≠ 0) (hb2 : barP q m ≠ 0) (f1 : ∀ i, FitW L (barP p n * p i)) (f2 : ∀ i, FitW L (barP q m * q i))
    (f3 : ∀ i, i ≤ n → ∀ j, FitW L (cnvR (fun i => barP p n * p i) (fun i => barP q m * q i) m i j)) (f4 : ∀ j, FitW L (timP p q n m j)) (hml : MLen w) :
    Calls Tryz.prog 153 #[x, y] w fun e w' => PolE w (timP p q n m) L e w' := by
  have HX := hide hx
  have HY := hide hy
  have HP := hide hp
  have HQ := hide hq
  have HB1 := hide b1
  have HB2 := hide b2
  have F1 := hide f1
  have F2 := hide f2
  have F3 := hide f3
  have F4 := hide f4
  have HM := hide hml
  have HBB : Hid (barP p n * barP q m ≠ 0) := fun e => by rcases Rat.mul_eq_zero.1 e with e | e <;> contradiction
  have HN1 := hide hb1
  have HN2 := hide hb2
  obtain ⟨xo, xc, rfl, hxc, hxm, _⟩ := hx
  obtain ⟨yo, yc, rfl, hyc, hym, _⟩ := hy
  unfold maxLen at hxm hym
  have ez1 : Hid (decide (n = 0) = false) := decide_eq_false (by omega)
  have ez2 : Hid (decide (m = 0) = false) := decide_eq_false (by omega)
  have PX : Hid (PL (fun i => barP p n * p i) n) := ⟨fun i hi => by show barP p n * p i = 0; rw [hp.1 i hi, Rat.mul_zero], fun h e => by rcases Rat.mul_eq_zero.1 e with e | e; exact hb1 e; exact hp.2 h e⟩
  have PY : Hid (PL (fun i => barP q m * q i) m) := ⟨fun i hi => by show barP q m * q i = 0; rw [hq.1 i hi, Rat.mul_zero], fun h e => by rcases Rat.mul_eq_zero.1 e with e | e; exact hb2 e; exact hq.2 h e⟩
  clear hp hq b1 b2 f1 f2 f3 f4 hml hb1 hb2
  go_enter Tryz.func153, Tryz.ntmps153
  go_wp2_with fail
  refine (pzero_at _ n p L w HX.out).mono ?_
  rintro e w1 ⟨rfl, rfl⟩
  rw [ez1.out]
  go_wp2_with fail
  refine (pzero_at _ m q L _ HY.out).mono ?_
  rintro e w2 ⟨rfl, rfl⟩
  rw [ez2.out]
  clear ez1 ez2
  go_wp2_with fail
  refine (pbar_at _ n p L _ HX.out (by omega) hL2 hL HB1.out HM.out).mono ?_
  rintro e w3 ⟨v3, rfl, a1, a2⟩
  obtain ⟨ao, al, ac, ao2, al2, ac2, rfl⟩ := a1.shape
  have A1 := hide a1
  have A2 := hide a2
  clear a1 a2
  go_wp2_with fail
  refine (pbar_at _ m q L _ (HY.out.keep0 A2.out) (by omega) hL2 hL HB2.out (HM.out.keep0 A2.out)).mono ?_
  rintro e w4 ⟨v4, rfl, c1, c2⟩
  obtain ⟨bo1, bl1, bc1, bo2, bl2, bc2, rfl⟩ := c1.shape
  have C1 := hide c1
  have A3 := hide (A1.out.keep0 c2)
  have G4 := hide (gr_none A2.out c2)
  clear c1 c2
  obtain ⟨xb, hxb⟩ : ∃ xb, xb = barP p n := ⟨_, rfl⟩
  obtain ⟨yb, hyb⟩ : ∃ yb, yb = barP q m := ⟨_, rfl⟩
  have HXB := hide hxb
  have HYB := hide hyb
  rw [← hxb, ← hyb]
  rw [← hxb] at A3 F1 PX
  rw [← hyb] at C1 F2 PY
  clear hxb hyb
  go_upto_region 4 with fail
  obtain ⟨w5, hw5⟩ : ∃ w5, w5 = (w4.alloc (Obj.cells #[.bool (rB xb), .slice ao al ac, .slice ao2 al2 ac2] 107)).alloc (Obj.cells #[.bool (rB yb), .slice bo1 bl1 bc1, .slice bo2 bl2 bc2] 107) := ⟨_, rfl⟩
  obtain ⟨bx, hbx⟩ : ∃ bx, bx = w4.heap.size := ⟨_, rfl⟩
  obtain ⟨bY, hby⟩ : ∃ bY, bY = w4.heap.size + 1 := ⟨_, rfl⟩
  have G5 : Hid (w4.grownBy w5 none) := by rw [hw5]; exact gr_alloc (gr_alloc (gr_refl _ _) _) _
  have X5 : Hid (FRow w5 bx 1 (fun _ => xb) L) := by
    have h : FRow (w4.alloc (Obj.cells #[.bool (rB xb), .slice ao al ac, .slice ao2 al2 ac2] 107)) w4.heap.size 1 (fun _ => xb) L := by
      refine ⟨_, _, heap_alloc_new w4 _, fun i hi => ?_⟩
      obtain rfl : i = 0 := by omega
      exact ⟨_, _, rfl, rfl, rfl, A3.out.keep0 (gr_alloc (gr_refl _ _) _)⟩
    rw [hw5, hbx]
    exact h.keep0 (gr_alloc (gr_refl _ _) _)
  have Y5 : Hid (FRow w5 bY 1 (fun _ => yb) L) := by
    rw [hw5, hby]
    have hs : (w4.alloc (Obj.cells #[.bool (rB xb), .slice ao al ac, .slice ao2 al2 ac2] 107)).heap.size = w4.heap.size + 1 := by simp
    rw [← hs]
    refine ⟨_, _, heap_alloc_new _ _, fun i hi => ?_⟩
    obtain rfl : i = 0 := by omega
    exact ⟨_, _, rfl, rfl, rfl, C1.out.keep0 (gr_alloc (gr_alloc (gr_refl _ _) _) _)⟩
  rw [← hw5, ← hbx]
  have hby2 : bY = bx + 1 := by omega
  rw [← hby2]
  have hne1 : bx ≠ bY := by omega
  clear hby2
  clear hw5 hbx hby
  obtain ⟨so, sl, sc, so2, sl2, sc2, c0, c1, c2, c3, _⟩ := X5.out.at 0 (by omega)
  obtain ⟨ro, tl, tc, ro2, tl2, tc2, d0, d1, d2, d3, _⟩ := Y5.out.at 0 (by omega)
  simp only [Nat.zero_mul, Nat.zero_add] at c0 c1 c2 d0 d1 d2
  have C3 := hide c3
  have D3 := hide d3
  have CX : Hid (∀ wx, w5.grownBy wx none → (wx.cell? ⟨bx, 0, none⟩ = some (.bool (rB xb)) ∧ wx.cell? ⟨bx, 1, none⟩ = some (.slice so sl sc) ∧ wx.cell? ⟨bx, 2, none⟩ = some (.slice so2 sl2 sc2)) ∧ (wx.cell? ⟨bY, 0, none⟩ = some (.bool (rB yb)) ∧ wx.cell? ⟨bY, 1, none⟩ = some (.slice ro tl tc) ∧ wx.cell? ⟨bY, 2, none⟩ = some (.slice ro2 tl2 tc2))) := by
    intro wx hg
    exact ⟨⟨hg.cell c0 (by simp), hg.cell c1 (by simp), hg.cell c2 (by simp)⟩, hg.cell d0 (by simp), hg.cell d1 (by simp), hg.cell d2 (by simp)⟩
  clear c3 d3 c0 c1 c2 d0 d1 d2
  have GG : w5.grownBy w5 none := gr_refl _ _
  obtain ⟨⟨c0, c1, c2⟩, d0, d1, d2⟩ := CX.out w5 GG
  go_region_held3 (fun w' => w'.cell? ⟨bx, 0, none⟩ = some (.bool (rB xb)) ∧ w'.cell? ⟨bx, 1, none⟩ = some (.slice so sl sc) ∧ w'.cell? ⟨bx, 2, none⟩ = some (.slice so2 sl2 sc2) ∧ w'.cell? ⟨bY, 0, none⟩ = some (.bool (rB yb)) ∧ w'.cell? ⟨bY, 1, none⟩ = some (.slice ro tl tc) ∧ w'.cell? ⟨bY, 2, none⟩ = some (.slice ro2 tl2 tc2)) (go_keep)
    (first
      | (go_at_call_of 81 (Value.slice xo n xc); refine (scaled_at _ _ n p xb L _ (HX.out.keep0 (gr_none G4.out (gr_none G5.out (by first | exact gr_none GG (gr_d _) | exact gr_none GG gr_d1 | exact GG)))) (C3.out.keep0 (by first | exact gr_none GG (gr_d _) | exact gr_none GG gr_d1 | exact GG)) (by omega) (by omega) HP.out.1 (fun i _ => F1.out i)).mono ?_; intro e wl ha; obtain ⟨ga, gac, rfl, fa, gra⟩ := ha.get PX.out; have FA := hide fa; (try have FB := hide (FB.out.keep0 (by first | exact gr_none (gr_d _) gra | exact gr_none gr_d1 gra | exact gra))); have GG : w5.grownBy wl none := gr_none (by first | exact gr_none GG (gr_d _) | exact gr_none GG gr_d1 | exact GG) gra; obtain ⟨⟨a0, a1, a2⟩, a3, a4, a5⟩ := CX.out wl GG; clear fa gra ha)
      | (go_at_call_of 81 (Value.slice yo m yc); refine (scaled_at _ _ m q yb L _ (HY.out.keep0 (gr_none G4.out (gr_none G5.out (by first | exact gr_none GG (gr_d _) | exact gr_none GG gr_d1 | exact GG)))) (D3.out.keep0 (by first | exact gr_none GG (gr_d _) | exact gr_none GG gr_d1 | exact GG)) (by omega) (by omega) HQ.out.1 (fun i _ => F2.out i)).mono ?_; intro e wl hb; obtain ⟨gb, gbc, rfl, fb, grb⟩ := hb.get PY.out; have FB := hide fb; (try have FA := hide (FA.out.keep0 (by first | exact gr_none (gr_d _) grb | exact gr_none gr_d1 grb | exact grb))); have GG : w5.grownBy wl none := gr_none (by first | exact gr_none GG (gr_d _) | exact gr_none GG gr_d1 | exact GG) grb; obtain ⟨⟨b0, b1, b2⟩, b3, b4, b5⟩ := CX.out wl GG; clear fb grb hb))
  all_goals
    have HG := hide GG
    have X6 := hide (X5.out.keep0 GG)
    have Y6 := hide (Y5.out.keep0 GG)
    clear GG
    (try clear a0 a1 a2 a3 a4 a5)
    (try clear b0 b1 b2 b3 b4 b5)
    obtain ⟨ga', gac', e1, k1, k2, k3⟩ := FA.out
    obtain ⟨gb', gbc', e2, l1, l2, l3⟩ := FB.out
    simp only [Value.slice.injEq, true_and] at e1 e2
    obtain ⟨rfl, rfl⟩ := e1
    obtain ⟨rfl, rfl⟩ := e2
    obtain ⟨gx, egx, hrx⟩ := k3 hn0
    obtain ⟨gy, egy, hry⟩ := l3 hm0
    subst egx egy
    have RX := hide hrx
    have RY := hide hry
    have hgx := hrx.lt
    have hgy := hry.lt
    unfold maxLen at k2 l2
    obtain ⟨N, hN⟩ : ∃ N, N + 1 = n + m := ⟨n + m - 1, by omega⟩
    have hNi : ((n : Int) + (m : Int) - 1) = (N : Int) := by omega
    have hNl : N ≤ 2000 := by omega
    have HNN := hide hN
    clear hrx hry k3 l3 hN FA FB
    go_wp2_with (refine wpList_make_f _ rfl _ _ 96 rfl Tryz.underlying96 Tryz.infoF .i64 .i64 _ _ N rfl rfl (by omega) (by omega) (by omega) ?_)
    intro W hF hG
    obtain ⟨bo, hbo⟩ : ∃ bo, bo = wl.heap.size := ⟨_, rfl⟩
    rw [← hbo] at hF ⊢
    have HF := hide hF
    have HG7 := hide hG
    have HBO := hide hbo
    clear hF hG hNi hbo
    go_wp2
    go_loopw [37] (fun v wr => Hid (TimR wl (fun i => xb * p i) (fun i => yb * q i) n m N bo L v wr)) (fun v _ => n - (intOf v).toNat)
    case atStart => exact ⟨0, by omega, rfl, HF.out.mono (Nat.zero_le _), HG7.out⟩
    case round =>
      obtain ⟨i, hi, rfl, i1, i2⟩ := hrel.out
      have I1 := hide i1
      have I2 := hide i2
      clear hrel i1 i2
      by_cases hlt : i < n
      · have hbol := I1.out.lt
        have hbo1 : wl.heap.size ≤ bo := by rw [HBO.out]; exact Nat.le_refl _
        obtain ⟨uo, ul, uc, do_, dl, dc, c0, c1, c2, c3, _⟩ := (RX.out.keep0 I2.out).at i hlt
        have C3 := hide c3
        clear c3
        obtain ⟨z, hz0⟩ : ∃ z, z = xb * p i := ⟨_, rfl⟩
        rw [← hz0] at c0 C3
        have HZ := hide hz0
        clear hz0
        go_upto_region 9 with fail
        obtain ⟨w8, hw8⟩ : ∃ w8, w8 = wr.alloc (Obj.cells #[.bool (rB z), .slice uo ul uc, .slice do_ dl dc] 107) := ⟨_, rfl⟩
        have G8 : Hid (wr.grownBy w8 none) := by rw [hw8]; exact gr_alloc (gr_refl _ _) _
        have XC : Hid (∀ wx, w8.grownBy wx none → wx.cell? ⟨wr.heap.size, 0, none⟩ = some (.bool (rB z)) ∧ wx.cell? ⟨wr.heap.size, 1, none⟩ = some (.slice uo ul uc) ∧ wx.cell? ⟨wr.heap.size, 2, none⟩ = some (.slice do_ dl dc)) := by
          intro wx hg
          rw [hw8] at hg
          exact box_three hg
        rw [← hw8]
        have hs8 : w8.heap.size = wr.heap.size + 1 := by rw [hw8]; simp
        clear hw8 c0 c1 c2
        obtain ⟨x0, x1, x2⟩ := XC.out w8 (gr_refl _ _)
        by_cases hz : z = 0
        · have hz1 : Hid (decide (rN z = 0) = true) := by rw [hz]; rfl
          have HZ0 := hide hz
          clear hz
          go_wp2_with (go_at_call 60; refine (isZero_at _ _ _ _ L _ (C3.out.keep0 G8.out)).mono ?_; rintro e w9 ⟨rfl, k4⟩; rw [hz1.out]; have K4 := hide k4; clear k4)
          go_roundw
          case rel =>
            refine ⟨i + 1, by omega, by go_num, ?_, gr_none I2.out (gr_none G8.out K4.out)⟩
            have e : cnvR (fun i => xb * p i) (fun i => yb * q i) m (i + 1) = cnvR (fun i => xb * p i) (fun i => yb * q i) m i := cnvR_zero (by show xb * p i = 0; rw [← HZ.out, HZ0.out])
            rw [e]
            exact I1.out.keep0 (gr_none G8.out K4.out)
          case measure => simp [intOf]; omega
        · have hz1 : Hid (decide (rN z = 0) = false) := by
            refine decide_eq_false fun e => hz ?_
            unfold rN at e
            exact Rat.num_eq_zero.1 (by omega)
          clear hz
          go_wp2_with (go_at_call 60; refine (isZero_at _ _ _ _ L _ (C3.out.keep0 G8.out)).mono ?_; rintro e w9 ⟨rfl, k4⟩; rw [hz1.out]; have K4 := hide k4; clear k4)
          have hs9 := K4.out.size
          have I1' := hide (I1.out.keep0 (gr_none G8.out K4.out))
          have I2' := hide (gr_none I2.out (gr_none G8.out K4.out))
          have C3' := hide (C3.out.keep0 (gr_none G8.out K4.out))
          have XC' : Hid (∀ wx, w9.grownBy wx none → wx.cell? ⟨wr.heap.size, 0, none⟩ = some (.bool (rB z)) ∧ wx.cell? ⟨wr.heap.size, 1, none⟩ = some (.slice uo ul uc) ∧ wx.cell? ⟨wr.heap.size, 2, none⟩ = some (.slice do_ dl dc)) := fun wx hg => XC.out wx (gr_none K4.out hg)
          obtain ⟨bz, hbz⟩ : ∃ bz, bz = wr.heap.size := ⟨_, rfl⟩
          rw [← hbz] at XC' hs8 hbol ⊢
          clear x0 x1 x2 XC I1 I2 C3 hbz
          go_loopw [46] (fun v wr => Hid (TiiR wl w9 (fun i => xb * p i) (fun i => yb * q i) m i N bo L v wr)) (fun v _ => m - (intOf v).toNat)
          case atStart => exact ⟨0, by omega, rfl, I1'.out.congr (fun j _ => by unfold cnvM; rw [if_neg (by omega)]), I2'.out, gr_refl _ _, WKept.refl _⟩
          case round =>
            obtain ⟨k, hk, rfl, j1, j2, j3, j4⟩ := hrel.out
            have J1 := hide j1
            have J2 := hide j2
            have J3 := hide j3
            have J4 := hide j4
            clear hrel j1 j2 j3 j4 I1'
            by_cases hkm : k < m
            · obtain ⟨l, hl⟩ : ∃ l, l = i + k := ⟨_, rfl⟩
              have hlN : l < N := by have := HNN.out; omega
              have HLL := hide hl
              have hw1 : IntKind.i64.wrap (((i : Nat) : Int) + ((k : Nat) : Int)) = ((l : Nat) : Int) := by rw [IntWalk.i64_in _ ⟨by omega, by omega⟩]; omega
              clear hl
              obtain ⟨yo1, yl1, yc1, yo2, yl2, yc2, y0, y1, y2, y3, _⟩ := (RY.out.keep0 J2.out).at k hkm
              obtain ⟨t, ht0⟩ : ∃ t, t = yb * q k := ⟨_, rfl⟩
              rw [← ht0] at y0 y3
              have HT := hide ht0
              have Y3 := hide y3
              clear y3 ht0
              go_upto_region 13 with fail
              obtain ⟨w5', hw5⟩ : ∃ w5', w5' = wr.alloc (Obj.cells #[.bool (rB t), .slice yo1 yl1 yc1, .slice yo2 yl2 yc2] 107) := ⟨_, rfl⟩
              have G5' : Hid (wr.grownBy w5' none) := by rw [hw5]; exact gr_alloc (gr_refl _ _) _
              have YC : Hid (∀ wx, w5'.grownBy wx none → wx.cell? ⟨wr.heap.size, 0, none⟩ = some (.bool (rB t)) ∧ wx.cell? ⟨wr.heap.size, 1, none⟩ = some (.slice yo1 yl1 yc1) ∧ wx.cell? ⟨wr.heap.size, 2, none⟩ = some (.slice yo2 yl2 yc2)) := by
                intro wx hg
                rw [hw5] at hg
                exact box_three hg
              rw [← hw5]
              clear hw5 y0 y1 y2
              have eM : cnvM (fun i => xb * p i) (fun i => yb * q i) m i k l = cnvR (fun i => xb * p i) (fun i => yb * q i) m i l := by
                unfold cnvM
                rw [if_neg (by have := HLL.out; omega)]
              obtain ⟨vo, vl, vc, vo2, vl2, vc2, c0, c1, c2, c3, _⟩ := J1.out.at l hlN
              rw [eM] at c0 c3
              obtain ⟨rl, hrl⟩ : ∃ rl, rl = cnvR (fun i => xb * p i) (fun i => yb * q i) m i l := ⟨_, rfl⟩
              rw [← hrl] at c0 c3
              have E3 := hide c3
              have HRL := hide hrl
              have hL1 := J1.out.lt
              have hL2' := J3.out.size
              have hL5 := G5'.out.size
              have ZC : Hid (∀ wx, wr.grownBy wx none → wx.cell? ⟨bz, 0, none⟩ = some (.bool (rB z)) ∧ wx.cell? ⟨bz, 1, none⟩ = some (.slice uo ul uc) ∧ wx.cell? ⟨bz, 2, none⟩ = some (.slice do_ dl dc)) := by
                intro wx hg
                obtain ⟨q0, q1, q2⟩ := XC'.out w9 (gr_refl _ _)
                have hne : ∀ j, some (⟨bz, j, none⟩ : Addr).block ≠ some bo := fun j e => by simp only [Option.some.injEq] at e; omega
                exact ⟨hg.cell (J3.out.cell q0 (hne 0)) (by simp), hg.cell (J3.out.cell q1 (hne 1)) (by simp), hg.cell (J3.out.cell q2 (hne 2)) (by simp)⟩
              have CX' : Hid (∀ wx, w5'.grownBy wx none → (wx.cell? ⟨bo, l * 3, none⟩ = some (.bool (rB rl)) ∧ wx.cell? ⟨bo, l * 3 + 1, none⟩ = some (.slice vo vl vc) ∧ wx.cell? ⟨bo, l * 3 + 2, none⟩ = some (.slice vo2 vl2 vc2)) ∧ (wx.cell? ⟨bz, 0, none⟩ = some (.bool (rB z)) ∧ wx.cell? ⟨bz, 1, none⟩ = some (.slice uo ul uc) ∧ wx.cell? ⟨bz, 2, none⟩ = some (.slice do_ dl dc)) ∧ ∀ j, wx.frozen? ⟨bo, j, none⟩ = false) := by
                intro wx hg
                have hg2 := gr_none G5'.out hg
                obtain ⟨_, _, _, _, _, _, _, _, _, _, df⟩ := (J1.out.keep0 hg2).at l hlN
                exact ⟨⟨hg2.cell c0 (by simp), hg2.cell c1 (by simp), hg2.cell c2 (by simp)⟩, ZC.out wx hg2, df⟩
              clear c0 c1 c2 c3 eM hrl
              have GG : w5'.grownBy w5' none := gr_refl _ _
              obtain ⟨⟨s0, s1, s2⟩, ⟨s3, s4, s5⟩, _⟩ := CX'.out w5' GG
              obtain ⟨x0, x1, x2⟩ := YC.out w5' GG
              have hn1 : wr.heap.size ≠ bo := by omega
              have hn2 : wr.heap.size ≠ bz := by omega
              have hn3 : bo ≠ wr.heap.size := by omega
              have hn4 : bz ≠ wr.heap.size := by omega
              have hn5 : bo ≠ bz := by omega
              have hn6 : bz ≠ bo := by omega
              have hl1 : (0 : Int) ≤ ((l : Nat) : Int) := by omega
              have hl2 : ((l : Nat) : Int) < (N : Int) := by omega
              go_region_with
                (first
                  | (go_at_call 139; (try clear hw1); refine (qTimes_at _ _ z t L L _ ((C3'.out.kept J4.out).keep0 (gr_none G5'.out (by first | exact gr_none GG (gr_d _) | exact gr_none GG gr_d1 | exact GG))) (Y3.out.keep0 (gr_none G5'.out (by first | exact gr_none GG (gr_d _) | exact gr_none GG gr_d1 | exact GG))) (by omega)).mono ?_; rintro e wa ⟨va, rfl, fa, ga⟩; obtain ⟨ao3, al3, ac3, ao4, al4, ac4, rfl⟩ := fa.shape; have FA := hide fa; have GG : w5'.grownBy wa none := gr_none (by first | exact gr_none GG (gr_d _) | exact gr_none GG gr_d1 | exact GG) ga; obtain ⟨⟨a0, a1, a2⟩, ⟨a3, a4, a5⟩, _⟩ := CX'.out wa GG; obtain ⟨z0, z1, z2⟩ := YC.out wa GG; clear fa ga)
                  | (go_at_call 157; (try clear hw1); refine (qPlus_at _ _ rl (z * t) L (L + L + 1) _ (E3.out.keep0 (gr_none G5'.out (by first | exact gr_none GG (gr_d _) | exact gr_none GG gr_d1 | exact GG))) (FA.out.keep0 (by first | exact gr_d _ | exact gr_d1 | exact gr_refl _ _)) (by omega)).mono ?_; rintro e wf ⟨v6, rfl, f1, f2⟩; obtain ⟨fo, fl, fc, fo2, fl2, fc2, rfl⟩ := f1.shape; have GG : w5'.grownBy wf none := gr_none (by first | exact gr_none GG (gr_d _) | exact gr_none GG gr_d1 | exact GG) f2; obtain ⟨⟨b0, b1, b2⟩, ⟨b3, b4, b5⟩, rf⟩ := CX'.out wf GG; obtain ⟨q0, q1, q2⟩ := YC.out wf GG; have rf0 := rf (l * 3); have rf1 := rf (l * 3 + 1); have rf2 := rf (l * 3 + 2); clear rf))
              all_goals
                have HS : Hid (FitW L (rl + z * t)) := by
                  have h := F3.out (i + 1) (by omega) l
                  have h1 := HLL.out
                  rw [← HXB.out, ← HYB.out] at h
                  have e : cnvR (fun i => xb * p i) (fun i => yb * q i) m (i + 1) l = rl + z * t := by
                    show (if i ≤ l ∧ l < i + m then cnvR (fun i => xb * p i) (fun i => yb * q i) m i l + xb * p i * (yb * q (l - i)) else cnvR (fun i => xb * p i) (fun i => yb * q i) m i l) = rl + z * t
                    rw [if_pos ⟨by omega, by omega⟩, ← HRL.out, ← HZ.out, show l - i = k by omega, ← HT.out]
                  rw [e] at h
                  exact h
                have G6 := gr_none G5'.out GG
                obtain ⟨r1', r2', r3'⟩ := (J1.out.keep0 G6).set l hlN (f1.tight HS.out)
                have gall := gr_own2 (gr_none J2.out G6) r2' (fun b e => by cases e; exact hbo1)
                have gall2 : w9.grownBy _ (some bo) := gr_trans (r1 := some bo) (r2 := some bo) (gr_trans (r1 := some bo) (r2 := none) J3.out G6 (fun _ _ e => e) (fun _ _ e => by cases e)) r2' (fun _ _ e => e) (fun _ _ e => e)
                have gall3 := (J4.out.trans (WKept.of_gr G6)).trans r3'
                generalize (((_ : World).setCell ⟨bo, l * 3, none⟩ (.bool (rB (rl + z * t)))).setCell ⟨bo, l * 3 + 1, none⟩ (.slice fo fl fc)).setCell ⟨bo, l * 3 + 2, none⟩ (.slice fo2 fl2 fc2) = W6 at r1' r2' r3' gall gall2 gall3 ⊢
                have R1 : Hid (FRow W6 bo N (cnvM (fun i => xb * p i) (fun i => yb * q i) m i (k + 1)) L) := r1'.congr (fun j _ => by rw [HRL.out, HLL.out, HZ.out, HT.out]; exact cnvM_put (fun i => xb * p i) (fun i => yb * q i) m i k j)
                have R3 := hide gall
                have R4 := hide gall2
                have R5 := hide gall3
                clear r1' r2' r3' gall gall2 gall3 f1 f2 b0 b1 b2 b3 b4 b5 q0 q1 q2 rf0 rf1 rf2 GG G6
                go_wp2
                go_roundw
                case rel => exact ⟨k + 1, by omega, by go_num, R1.out, R3.out, R4.out, R5.out⟩
                case measure => simp [intOf]; omega
            · obtain rfl : k = m := by omega
              go_wp2
              go_roundw
              case rel => exact ⟨i + 1, by omega, by go_num, J1.out.congr (fun j _ => rfl), J2.out⟩
              case measure => simp [intOf]; omega
      · obtain rfl : i = n := by omega
        go_wp2_with fail
        have ef : ∀ j, timP p q i m j = cnvR (fun k => xb * p k) (fun k => yb * q k) m i j / (xb * yb) := by
          intro j
          unfold timP
          rw [← HXB.out, ← HYB.out]
        have EF := hide ef
        clear ef
        refine (each_at _ N 231 #[] #[.pointer (some ⟨bx, 0, none⟩), .pointer (some ⟨bY, 0, none⟩)] (cnvR (fun k => xb * p k) (fun k => yb * q k) m i) (timP p q i m) L wr entTimes1 ⟨_, _, rfl, Nat.le_refl _, by unfold maxLen; omega, fun _ => ⟨bo, rfl, I1.out⟩⟩ (by omega) (fun j hj => by rw [EF.out, cnvR_out i j (by have := HNN.out; omega)]; rw [Rat.div_def, Rat.zero_mul]) ?_).mono ?_
        · intro j hj v wx hg hv
          rw [EF.out]
          exact (times1_at bx bY v _ xb yb L wx (X6.out.keep0 (gr_none I2.out hg)) (Y6.out.keep0 (gr_none I2.out hg)) hv (by rw [HXB.out, HYB.out]; exact HBB.out) hL (by rw [← EF.out]; exact F4.out j)).mono (fun _ _ h => h)
        · rintro e w8 ⟨v, k, rfl, h1, h2, h3⟩
          obtain ⟨ao', c, rfl, k1', k2', k3'⟩ := h1
          have K3 := hide k3'
          have K2 := hide k2'
          have H2 := hide h2
          have H3 := hide h3
          clear k3' k2' h2 h3
          go_wp2
          go_ret
          exact ⟨_, k, rfl, ⟨ao', c, rfl, k1', K2.out, K3.out⟩, H2.out, gr_none (gr_none G4.out (gr_none G5.out HG.out)) (gr_none I2.out H3.out)⟩
end Go.Proofs.YtbihhkcgiepgaaeGreatDoor
