/- poly: Jumps. -/
import Derived.Test.YtklkpkkjakllfaaGreatDoorXPLeft
set_option linter.unusedVariables false
set_option linter.unusedSimpArgs false
set_option maxHeartbeats 8000000
set_option maxRecDepth 10000
namespace Go.Proofs.YtklkpkkjakllfaaGreatDoor
open Go.RowKit
def vB (K a : Nat) : Nat := 3 ^ (13 - a) * (K + 3)
theorem vB_pos (K a : Nat) : 3 ≤ vB K a := by
  unfold vB
  have : 1 ≤ 3 ^ (13 - a) := Nat.pow_pos (by decide)
  have := Nat.mul_le_mul_right (K + 3) this
  omega
theorem vB_one (K b : Nat) (h : 1 ≤ b) : vB K b ≤ vB K 1 := by
  unfold vB
  exact Nat.mul_le_mul_right _ (Nat.pow_le_pow_right (by decide) (by omega))
theorem three_pow (j : Nat) (h : 1 ≤ j) : j + 2 ≤ 3 ^ j := by
  induction j with
  | zero => omega
  | succ j ih =>
    by_cases h1 : j = 0
    · subst h1; decide
    · have := ih (by omega)
      rw [Nat.pow_succ]
      omega
theorem vB_step {K b j mx my : Nat} (hj : 1 ≤ j) (h13 : b + j ≤ 13) (h1 : mx + 3 ≤ vB K (b + j)) (h2 : my + 2 ≤ vB K (b + j)) : mx + (b + j - b + 1) * (my + 1) + 2 ≤ vB K b ∧ my + 3 ≤ vB K b := by
  have e : vB K b = 3 ^ j * vB K (b + j) := by
    unfold vB
    rw [← Nat.mul_assoc, ← Nat.pow_add, show j + (13 - (b + j)) = 13 - b by omega]
  rw [e]
  generalize vB K (b + j) = V at h1 h2 ⊢
  have h3 : (j + 2) * V ≤ 3 ^ j * V := Nat.mul_le_mul_right _ (three_pow j hj)
  have h4 : (b + j - b + 1) * (my + 1) ≤ (j + 1) * V := Nat.mul_le_mul (by omega) (by omega)
  have h5 : (j + 2) * V = (j + 1) * V + V := by rw [show j + 2 = (j + 1) + 1 by omega, Nat.succ_mul]
  have h6 : 3 * V ≤ (j + 2) * V := Nat.mul_le_mul_right _ (by omega)
  exact ⟨by omega, by omega⟩
theorem plain_whl {p : Nat → Rat} {c m : Nat} (hp : PL p c) (h : Whl p m) : Whl (plainP p c) m := by
  intro i
  by_cases hi : i < c
  · obtain ⟨h1, h2⟩ := plain_whole (p := p) hi (shr_ne (i := c - 1) (by omega) (hp.2 (by omega)))
    rw [shr_whole (fun i => (h i).1) c, Nat.mul_one] at h2
    exact ⟨h1, Nat.lt_of_le_of_lt h2 (h i).2⟩
  · have e : plainP p c i = 0 := by
      unfold plainP
      rw [hp.1 i (by omega)]
      grind
    rw [e]
    exact whl_zero
theorem shr_fit {p : Nat → Rat} {m L : Nat} (h : Whl p m) (hm : m ≤ L) (hL : 1 ≤ L) (i : Nat) : FitW L (shr p i) :=
  fit_whole (shr_whole (fun i => (h i).1) i) (shr_num (fun i => (h i).2) i) hm hL
theorem PL_plain {p : Nat → Rat} {c : Nat} (hp : PL p c) : PL (plainP p c) c := by
  refine ⟨fun i hi => ?_, fun h0 => ?_⟩
  · unfold plainP
    rw [hp.1 i hi]
    grind
  · unfold plainP
    have h1 := hp.2 h0
    have h2 := shr_ne (i := c - 1) (by omega : c - 1 < c) h1
    intro e
    rw [Rat.div_def] at e
    rcases Rat.mul_eq_zero.1 e with e | e
    · exact h1 e
    · exact h2 (by rw [← Rat.inv_inv (shr p c), e, Rat.inv_zero])
theorem plain_scale {p : Nat → Rat} {c : Nat} (hp : PL p c) : ∃ k : Rat, 0 < k ∧ plainP p c = fun i => k * p i := by
  rcases Nat.eq_zero_or_pos c with h0 | h0
  · subst h0
    refine ⟨1, by decide, ?_⟩
    funext i
    unfold plainP
    rw [hp.1 i (by omega)]
    grind
  · have hs := shr_pos (i := c - 1) (by omega : c - 1 < c) (hp.2 h0)
    refine ⟨(shr p c)⁻¹, Rat.inv_pos.2 hs, ?_⟩
    funext i
    unfold plainP
    rw [Rat.div_def, Rat.mul_comm]
theorem PL_neg {p : Nat → Rat} {c : Nat} (hp : PL p c) : PL (fun i => -p i) c :=
  ⟨fun i hi => by show -p i = 0; rw [hp.1 i hi]; rfl, fun h0 e => hp.2 h0 (by have e' : -p (c - 1) = 0 := e; grind)⟩
theorem Whl.neg {p : Nat → Rat} {m : Nat} (h : Whl p m) : Whl (fun i => -p i) m := fun i => by
  obtain ⟨h1, h2⟩ := whole_neg (h i).1
  exact ⟨h1, by show rN (-p i) < _; rw [h2]; exact (h i).2⟩
def JumR (W : World) (x0 : Nat → Rat) (n : Nat) (y0 : Nat → Rat) (m K L : Nat) (v0 v1 v4 : Value) (wr : World) : Prop :=
  ∃ (x : Nat → Rat) (a : Nat) (y : Nat → Rat) (b : Nat) (u : Int) (mx my : Nat), Rw wr v0 a x L ∧ PL x a ∧ Rw wr v1 b y L ∧ PL y b ∧ b < a ∧ a ≤ n ∧ Whl x mx ∧ mx + 3 ≤ vB K a ∧ Whl y my ∧ my + 2 ≤ vB K a ∧
    v4 = .int .i64 u ∧ -((n : Int) - a) ≤ u ∧ u ≤ (n : Int) - a ∧ (a = n → b = m) ∧ (∀ u' s d, Jmp x a y b u' s d → Jmp x0 n y0 m (u + u') s d) ∧ W.grownBy wr none
def JumE (w : World) (x0 : Nat → Rat) (n : Nat) (y0 : Nat → Rat) (m K L : Nat) (e : Ending) (w' : World) : Prop :=
  ∃ (u : Int) (v : Value) (s : Nat → Rat) (d ms : Nat), e = .returned (.tuple #[.int .i64 u, v]) ∧ Rw w' v d s L ∧ PL s d ∧ 0 < d ∧ d ≤ n ∧ (0 < m → d < n) ∧ Whl s ms ∧ ms + 3 ≤ vB K d ∧ -(n : Int) ≤ u ∧ u ≤ n ∧ Jmp x0 n y0 m u s d ∧ w.grownBy w' none
theorem sign_small (z : Int) : -1 ≤ z.sign ∧ z.sign ≤ 1 := by
  rcases Int.lt_trichotomy z 0 with h | h | h
  · rw [Int.sign_eq_neg_one_of_neg h]; omega
  · rw [h]; decide
  · rw [Int.sign_eq_one_of_pos h]; omega
theorem sign_prod (z t : Int) : -1 ≤ z.sign * t.sign ∧ z.sign * t.sign ≤ 1 := by
  rw [← Int.sign_mul]
  exact sign_small _
theorem jumps_at (xv yv : Value) (n m : Nat) (p q : Nat → Rat) (mx0 my0 K L : Nat) (w : World) (hx : Rw w xv n p L) (hy : Rw w yv m q L) (px : PL p n) (py : PL q m) (hmn : m < n) (hn : n ≤ 13) (hL : L ≤ 1000000000000) (hVL : vB K 1 ≤ L)
    (fx1 : ∀ i, i ≤ n → FitW L (shr p i)) (fx2 : ∀ i, i < n → FitW L (plainP p n i)) (fy1 : ∀ i, i ≤ m → FitW L (shr q i)) (fy2 : ∀ i, i < m → FitW L (plainP q m i)) (wx : Whl (plainP p n) mx0) (hmx : mx0 + 3 ≤ vB K n) (wy : Whl (plainP q m) my0) (hmy : my0 + 2 ≤ vB K n) :
    Calls Tryz.prog 34 #[xv, yv] w fun e w' => JumE w (plainP p n) n (plainP q m) m K L e w' := by
  have HX := hide hx
  have HY := hide hy
  have PX := hide px
  have PY := hide py
  have FX1 := hide fx1
  have FX2 := hide fx2
  have FY1 := hide fy1
  have FY2 := hide fy2
  have WX := hide wx
  have WY := hide wy
  have MX := hide hmx
  have MY := hide hmy
  have hL1 : 1 ≤ L := Nat.le_trans (Nat.le_trans (by decide) (vB_pos K 1)) hVL
  have HVL := hide hVL
  obtain ⟨xo, xc, rfl, _, _, _⟩ := hx
  obtain ⟨yo, yc, rfl, _, _, _⟩ := hy
  clear px py fx1 fx2 fy1 fy2 wx wy hmx hmy hVL
  go_enter Tryz.func34, Tryz.ntmps34
  go_wp2_with fail
  refine (plain_at _ n p L w HX.out PX.out (by omega) hL FX1.out FX2.out).mono ?_
  rintro e w1 ⟨v1, m1, rfl, h1, h2, h3⟩
  have em : n = m1 := PL_uniq (PL_plain PX.out) h2
  subst em
  have X1 := hide h1
  have G1 := hide h3
  obtain ⟨xo1, xc1, rfl, _, _, _⟩ := h1
  clear h2 h3
  go_wp2_with fail
  refine (plain_at _ m q L w1 (HY.out.keep0 G1.out) PY.out (by omega) hL FY1.out FY2.out).mono ?_
  rintro e w2 ⟨v2, m2, rfl, h1, h2, h3⟩
  have em2 : m = m2 := PL_uniq (PL_plain PY.out) h2
  subst em2
  have Y1 := hide h1
  have G2 := hide (gr_none G1.out h3)
  have X2 := hide (X1.out.keep0 h3)
  obtain ⟨yo1, yc1, rfl, _, _, _⟩ := h1
  clear h2 h3
  go_wp2
  go_loopw [0, 1, 4] (fun v0 v1 v4 wr => Hid (JumR w (plainP p n) n (plainP q m) m K L v0 v1 v4 wr)) (fun _ v1 _ _ => lenOf v1)
  case atStart => exact ⟨plainP p n, n, plainP q m, m, 0, mx0, my0, X2.out, PL_plain PX.out, Y1.out, PL_plain PY.out, hmn, Nat.le_refl _, WX.out, MX.out, WY.out, MY.out, rfl, by omega, by omega, fun _ => rfl, fun u' s d h => by rw [Int.zero_add]; exact h, G2.out⟩
  case round =>
    obtain ⟨x, a, y, b, u, mx, my, r1, r2, r3, r4, r5, r6, r7, r8, r9, r10, rfl, r12, r13, r14, r15, r16⟩ := hrel.out
    have XR := hide r1
    have XP := hide r2
    have YR := hide r3
    have YP := hide r4
    have XW := hide r7
    have M8 := hide r8
    have YW := hide r9
    have M10 := hide r10
    have HE := hide r14
    have JJ := hide r15
    have GR := hide r16
    obtain ⟨ao, ac, rfl, hac, ham, _⟩ := r1
    obtain ⟨bo, bc, rfl, hbc, hbm, _⟩ := r3
    unfold maxLen at ham hbm
    clear r2 r4 r7 r8 r9 r10 r14 r15 r16 hrel X1 X2 Y1 G1 G2 HX HY FX1 FX2 FY1 FY2 WX WY MX MY
    by_cases hb0 : b = 0
    · have hd : Hid (decide (b = 0) = true) := decide_eq_true hb0
      have HB0 := hide hb0
      clear hb0
      go_wp2_with fail
      refine (pzero_at _ b y L wr YR.out).mono ?_
      rintro e w3 ⟨rfl, hw3⟩
      rw [hw3, hd.out]
      clear hw3
      go_wp2
      refine bodyPost_ret (v := .tuple #[.int .i64 u, .slice ao a ac]) (by simp [results, Tryz.results34, go_sem]) rfl ?_
      have hj := JJ.out 0 x a (by rw [HB0.out]; exact .over0 x a y)
      rw [Int.add_zero] at hj
      exact ⟨u, _, x, a, mx, rfl, XR.out, XP.out, by omega, r6, fun hm0 => by
        rcases Nat.lt_or_ge a n with h | h
        · exact h
        · have := HE.out (by omega)
          have h0 := HB0.out
          omega, XW.out, M8.out, by omega, by omega, hj, GR.out⟩
    · have hd : Hid (decide (b = 0) = false) := decide_eq_false hb0
      obtain ⟨j, rfl⟩ : ∃ j, a = b + j := ⟨a - b, by omega⟩
      obtain ⟨V1, V2⟩ := vB_step (K := K) (b := b) (j := j) (by omega) (by omega) M8.out M10.out
      have VS := hide V1
      have VT := hide V2
      have hMb := vB_one K b (by omega)
      have hML : mx + (b + j - b + 1) * (my + 1) ≤ L := by have := HVL.out; omega
      have HML := hide hML
      clear V1 V2 hMb hML
      have key : ∀ (u2 : Int) (wq : World), wr.grownBy wq none → u2 = u + jmp1 x y (b + j) b → True := fun _ _ _ _ => trivial
      clear key
      go_wp2_with fail
      refine (pzero_at _ b y L wr YR.out).mono ?_
      rintro e w3 ⟨rfl, hw3⟩
      rw [hw3, hd.out]
      clear hw3
      by_cases hpar : j % 2 = 0
      · have hp1 : (((b : Nat) : Int) + ((j : Nat) : Int) - ((b : Nat) : Int)) % 2 = 0 := by omega
        have ej : Hid (jmp1 x y (b + j) b = 0) := by unfold jmp1; rw [show b + j - b = j by omega]; exact if_pos hpar
        clear hpar
        go_wp2_with fail
        refine (left_at _ _ (b + j) b x y mx my (mx + (b + j - b + 1) * (my + 1)) L wr (XR.out.keep0 (gr_refl _ _)) (YR.out.keep0 (gr_refl _ _)) XP.out YP.out (by omega) (by omega) (by omega) hL hL1 XW.out YW.out (Nat.le_refl _) HML.out).mono ?_
        rintro e w8 ⟨v8, r, c, rfl, k1, k2, k3, k4, k5, k6⟩
        have R8 := hide k1
        have P8 := hide k2
        have W8 := hide k4
        have L8 := hide k5
        have G8 := hide (gr_none (gr_refl _ _) k6)
        obtain ⟨ro, rc, rfl, _, _, _⟩ := k1
        clear k2 k4 k5 k6
        go_wp2_with fail
        refine (popp_at _ c r L w8 R8.out (by omega) P8.out.1).mono ?_
        rintro e w9 ⟨v9, c9, rfl, k1, k2, k6⟩
        have ec : c = c9 := PL_uniq (PL_neg P8.out) k2
        subst ec
        have R9 := hide k1
        have G9 := hide (gr_none G8.out k6)
        obtain ⟨so, sc, rfl, _, _, _⟩ := k1
        clear k2 k6 R8
        go_wp2_with fail
        refine (plain_at _ c (fun i => -r i) L w9 R9.out (PL_neg P8.out) (by omega) hL (fun i _ => shr_fit W8.out.neg HML.out hL1 i) (fun i _ => (plain_whl (PL_neg P8.out) W8.out.neg).fit HML.out hL1 i)).mono ?_
        rintro e w10 ⟨v10, c10, rfl, k1, k2, k6⟩
        have ec : c = c10 := PL_uniq (PL_plain (PL_neg P8.out)) k2
        subst ec
        have R10 := hide k1
        have G10 := hide (gr_none G9.out k6)
        obtain ⟨qo, qc, rfl, _, _, _⟩ := k1
        clear k2 k6 R9
        go_wp2
        go_roundw
        case rel =>
          obtain ⟨k, hk, ek⟩ := plain_scale (PL_neg P8.out)
          refine ⟨y, b, _, c, u, my, _, YR.out.keep0 G10.out, YP.out, R10.out, PL_plain (PL_neg P8.out), k3, by omega, YW.out, VT.out, plain_whl (PL_neg P8.out) W8.out.neg, VS.out, by first | rfl | go_num | (simp only [Value.int.injEq, true_and]; omega), by omega, by omega, fun h => by omega, ?_, gr_none GR.out G10.out⟩
          intro u' s d hj
          rw [ek] at hj
          have h9 := Jmp.more x (b + j) y b r c k u' s d (by omega) L8.out hk hj
          rw [ej.out] at h9
          have h10 := JJ.out _ s d h9
          first | exact h10 | (rw [Int.zero_add] at h10; exact h10) | (rw [← Int.add_assoc] at h10; exact h10)
        case measure => simp [lenOf]; omega
      · have hp1 : (((b : Nat) : Int) + ((j : Nat) : Int) - ((b : Nat) : Int)) % 2 = 1 := by omega
        have ej : Hid (jmp1 x y (b + j) b = (x (b + j - 1)).num.sign * (y (b - 1)).num.sign) := by unfold jmp1 sgn1; rw [show b + j - b = j by omega]; exact if_neg hpar
        clear hpar
        go_wp2_with fail
        refine (last_at _ (b + j) x L wr XR.out (by omega) (by omega) XP.out.1).mono ?_
        rintro e w4 ⟨v4, rfl, f4, g4⟩
        obtain ⟨lo, ll, lc, lo2, ll2, lc2, rfl⟩ := f4.shape
        have F4 := hide f4
        have G4 := hide g4
        clear f4 g4
        go_wp2_with fail
        refine (fSign_at _ (x (b + j - 1)) L w4 F4.out).mono ?_
        rintro e w5 ⟨rfl, g5⟩
        have G5 := hide (gr_none G4.out g5)
        clear g5 F4 G4
        go_wp2_with fail
        refine (last_at _ b y L w5 (YR.out.keep0 G5.out) (by omega) (by omega) YP.out.1).mono ?_
        rintro e w6 ⟨v6, rfl, f6, g6⟩
        obtain ⟨lo', ll', lc', lo2', ll2', lc2', rfl⟩ := f6.shape
        have F6 := hide f6
        have G6 := hide (gr_none G5.out g6)
        clear f6 g6
        go_wp2_with fail
        refine (fSign_at _ (y (b - 1)) L w6 F6.out).mono ?_
        rintro e w7 ⟨rfl, g7⟩
        have G7 := hide (gr_none G6.out g7)
        clear g7 F6 G6 G5
        obtain ⟨s1, s2⟩ := sign_prod (x (b + j - 1)).num (y (b - 1)).num
        generalize (x (b + j - 1)).num.sign = sx at s1 s2 ej ⊢
        generalize (y (b - 1)).num.sign = sy at s1 s2 ej ⊢
        obtain ⟨pr, hpr⟩ : ∃ pr, sx * sy = pr := ⟨_, rfl⟩
        have ej' : Hid (jmp1 x y (b + j) b = pr) := by rw [← hpr]; exact ej.out
        rw [hpr] at s1 s2
        clear ej
        go_wp2_with fail
        refine (left_at _ _ (b + j) b x y mx my (mx + (b + j - b + 1) * (my + 1)) L w7 (XR.out.keep0 (G7.out)) (YR.out.keep0 (G7.out)) XP.out YP.out (by omega) (by omega) (by omega) hL hL1 XW.out YW.out (Nat.le_refl _) HML.out).mono ?_
        rintro e w8 ⟨v8, r, c, rfl, k1, k2, k3, k4, k5, k6⟩
        have R8 := hide k1
        have P8 := hide k2
        have W8 := hide k4
        have L8 := hide k5
        have G8 := hide (gr_none (G7.out) k6)
        obtain ⟨ro, rc, rfl, _, _, _⟩ := k1
        clear k2 k4 k5 k6
        go_wp2_with fail
        refine (popp_at _ c r L w8 R8.out (by omega) P8.out.1).mono ?_
        rintro e w9 ⟨v9, c9, rfl, k1, k2, k6⟩
        have ec : c = c9 := PL_uniq (PL_neg P8.out) k2
        subst ec
        have R9 := hide k1
        have G9 := hide (gr_none G8.out k6)
        obtain ⟨so, sc, rfl, _, _, _⟩ := k1
        clear k2 k6 R8
        go_wp2_with fail
        refine (plain_at _ c (fun i => -r i) L w9 R9.out (PL_neg P8.out) (by omega) hL (fun i _ => shr_fit W8.out.neg HML.out hL1 i) (fun i _ => (plain_whl (PL_neg P8.out) W8.out.neg).fit HML.out hL1 i)).mono ?_
        rintro e w10 ⟨v10, c10, rfl, k1, k2, k6⟩
        have ec : c = c10 := PL_uniq (PL_plain (PL_neg P8.out)) k2
        subst ec
        have R10 := hide k1
        have G10 := hide (gr_none G9.out k6)
        obtain ⟨qo, qc, rfl, _, _, _⟩ := k1
        clear k2 k6 R9
        go_wp2
        go_roundw
        case rel =>
          obtain ⟨k, hk, ek⟩ := plain_scale (PL_neg P8.out)
          refine ⟨y, b, _, c, (u + pr), my, _, YR.out.keep0 G10.out, YP.out, R10.out, PL_plain (PL_neg P8.out), k3, by omega, YW.out, VT.out, plain_whl (PL_neg P8.out) W8.out.neg, VS.out, by first | rfl | go_num | (simp only [Value.int.injEq, true_and]; omega), by omega, by omega, fun h => by omega, ?_, gr_none GR.out G10.out⟩
          intro u' s d hj
          rw [ek] at hj
          have h9 := Jmp.more x (b + j) y b r c k u' s d (by omega) L8.out hk hj
          rw [ej'.out] at h9
          have h10 := JJ.out _ s d h9
          first | exact h10 | (rw [Int.zero_add] at h10; exact h10) | (rw [← Int.add_assoc] at h10; exact h10)
        case measure => simp [lenOf]; omega
def slopeP (p : Nat → Rat) : Nat → Rat := fun i => p (i + 1) * ((i + 1 : Nat) : Rat)
theorem natQ_ne {n : Nat} (h : 0 < n) : ((n : Nat) : Rat) ≠ 0 := by
  intro e
  have h2 : ((n : Nat) : Rat).num = 0 := by rw [e]; rfl
  rw [Rat.num_natCast] at h2
  omega
theorem PL_slope {p : Nat → Rat} {n : Nat} (h : PL p n) : PL (slopeP p) (n - 1) := by
  refine ⟨fun i hi => ?_, fun h0 e => ?_⟩
  · unfold slopeP
    rw [h.1 (i + 1) (by omega), Rat.zero_mul]
  · unfold slopeP at e
    rw [show n - 1 - 1 + 1 = n - 1 by omega] at e
    rcases Rat.mul_eq_zero.1 e with e | e
    · exact h.2 (by omega) e
    · exact natQ_ne (by omega) e
theorem slope_whl {p : Nat → Rat} {n m : Nat} (hp : PL p n) (hn : n ≤ 13) (h : Whl p m) : Whl (slopeP p) (m + 1) := by
  intro i
  unfold slopeP
  by_cases hi : i + 1 < n
  · refine mul_bound (h (i + 1)) ⟨rfl, ?_⟩
    show (((i + 1 : Nat) : Rat).num).natAbs < _
    rw [Rat.num_natCast, Nat.pow_one]
    show i + 1 < _
    omega
  · rw [hp.1 (i + 1) (by omega), Rat.zero_mul]
    exact whl_zero
theorem ofWord_at' (x : Nat) (z : Int) (q : Rat) (w : World) (hz : z = ((x : Nat) : Int)) (hq : Hid (q = ((x : Nat) : Rat))) (hx : x < 4294967296) :
    Calls Tryz.prog 107 #[.int .u32 z] w fun e w' => FQE w q 1 e w' := by
  subst hz
  rw [hq.out]
  exact ofWord_at x w hx
theorem entSlope1 : Ent 106 := Go.Proofs.enters_of Tryz.func106 (by kernel_rfl) rfl
theorem slope1_at (bx gx n c : Nat) (p : Nat → Rat) (i L : Nat) (w : World) (hx : w.cell? ⟨bx, 0, none⟩ = some (.slice (some ⟨gx, 0, none⟩) n c))
    (hr : FRow w gx n p L) (hi : i + 1 < n) (hn : n ≤ 3000) (hc : n ≤ c) (hm : c ≤ maxLen) (hL : L ≤ 1000000000000) (hfit : FitW L (slopeP p i)) :
    Calls Tryz.prog 106 #[.int .i64 ((i : Nat) : Int), .pointer (some ⟨bx, 0, none⟩)] w fun e w' => FQE w (slopeP p i) L e w' := by
  unfold maxLen at hm
  obtain ⟨q, hq⟩ : ∃ q, q = ((i + 1 : Nat) : Rat) := ⟨_, rfl⟩
  have HQ := hide hq
  have es : slopeP p i = p (i + 1) * q := by rw [hq]; rfl
  rw [es] at hfit ⊢
  clear es hq
  have HF := hide hfit
  have hgl := hr.lt
  have hxl := cell_lt hx
  simp only at hxl
  obtain ⟨uo, ul, uc, vo, vl, vc, c0, c1, c2, c3, _⟩ := hr.at (i + 1) hi
  have C3 := hide c3
  clear hr c3 hfit
  obtain ⟨W, hW⟩ : ∃ W, W = w.alloc (Obj.cells #[.bool false, .slice none 0 0, .slice none 0 0] 75) := ⟨_, rfl⟩
  have GW : Hid (w.grownBy W none) := by rw [hW]; exact gr_alloc (gr_refl _ _) _
  have CX : Hid (∀ wx, W.grownBy wx none → wx.cell? ⟨bx, 0, none⟩ = some (.slice (some ⟨gx, 0, none⟩) n c) ∧ wx.cell? ⟨gx, (i + 1) * 3, none⟩ = some (.bool (rB (p (i + 1)))) ∧ wx.cell? ⟨gx, (i + 1) * 3 + 1, none⟩ = some (.slice uo ul uc) ∧ wx.cell? ⟨gx, (i + 1) * 3 + 2, none⟩ = some (.slice vo vl vc)) := by
    intro wx hg
    have hg2 := gr_none GW.out hg
    exact ⟨hg2.cell hx (by simp), hg2.cell c0 (by simp), hg2.cell c1 (by simp), hg2.cell c2 (by simp)⟩
  have RES : Hid (∀ wx, W.grownBy wx none → (wx.cell? ⟨w.heap.size, 0, none⟩ = some (.bool false) ∧ wx.cell? ⟨w.heap.size, 1, none⟩ = some (.slice none 0 0) ∧ wx.cell? ⟨w.heap.size, 2, none⟩ = some (.slice none 0 0) ∧ ∀ i, wx.frozen? ⟨w.heap.size, i, none⟩ = false) ∧ NoWords wx w.heap.size) := by
    intro wx hg
    rw [hW] at hg
    exact ⟨res_cells hg, noWords_res hg⟩
  clear c0 c1 c2 hx
  have GG : W.grownBy W none := gr_refl _ _
  obtain ⟨s1, s2, s3, s4⟩ := CX.out W GG
  have n2 : w.heap.size ≠ bx := by omega
  have n3 : w.heap.size ≠ gx := by omega
  have hi1 : (0 : Int) ≤ ((i : Nat) : Int) := by omega
  have hi2 : ((i : Nat) : Int) + 1 < (n : Int) := by omega
  have hi3 : (0 : Int) ≤ ((i : Nat) : Int) + 1 := by omega
  have hw1 : IntKind.i64.wrap (((i : Nat) : Int) + 1) = ((i : Nat) : Int) + 1 := IntWalk.i64_in _ ⟨by omega, by omega⟩
  have hw2 : IntKind.u32.wrap (((i : Nat) : Int) + 1) = ((i : Nat) : Int) + 1 := IntWalk.u32_in _ ⟨by omega, by omega⟩
  go_enter Tryz.func106, Tryz.ntmps106
  go_upto_region 1 with fail
  rw [← hW]
  clear hW
  go_region_held3 (fun w' => w'.cell? ⟨bx, 0, none⟩ = some (.slice (some ⟨gx, 0, none⟩) n c) ∧ w'.cell? ⟨gx, (i + 1) * 3, none⟩ = some (.bool (rB (p (i + 1)))) ∧ w'.cell? ⟨gx, (i + 1) * 3 + 1, none⟩ = some (.slice uo ul uc) ∧ w'.cell? ⟨gx, (i + 1) * 3 + 2, none⟩ = some (.slice vo vl vc)) (go_keep)
    (first
      | (go_at_call 107; (try clear hw1 hw2); refine (ofWord_at' (i + 1) _ q _ (by omega) HQ (by omega)).mono ?_; rintro e wa ⟨va, rfl, fa, ga⟩; obtain ⟨ao, al, ac, ao2, al2, ac2, rfl⟩ := fa.shape; have FA := hide fa; have GG : W.grownBy wa none := gr_none (by first | exact gr_none GG (gr_d _) | exact gr_none GG gr_d1 | exact GG) ga; obtain ⟨a1, a2, a3, a4⟩ := CX.out wa GG; clear fa ga)
      | (go_at_call 78; (try clear hw1 hw2); refine (qTimes_at _ _ (p (i + 1)) q L 1 _ (C3.out.keep0 (gr_none GW.out (by first | exact gr_none GG (gr_d _) | exact gr_none GG gr_d1 | exact GG))) (FA.out.keep0 (by first | exact gr_d _ | exact gr_d1 | exact gr_refl _ _)) (by omega)).mono ?_; rintro e wf ⟨v6, rfl, f1, f2⟩; obtain ⟨fo, fl, fc, fo2, fl2, fc2, rfl⟩ := f1.shape; have GG : W.grownBy wf none := gr_none (by first | exact gr_none GG (gr_d _) | exact gr_none GG gr_d1 | exact GG) f2; obtain ⟨b1, b2, b3, b4⟩ := CX.out wf GG; obtain ⟨⟨r0, r1, r2, rf⟩, nw⟩ := RES.out wf GG; have rf0 := rf 0; have rf1 := rf 1; have rf2 := rf 2; clear rf))
  all_goals
    have F1 := hide (f1.tight HF.out)
    have NW := hide nw
    have HG := hide GG
    clear f1 f2 nw
    go_wp2
    refine bodyPost_ret (v := .agg #[.bool (rB (p (i + 1) * q)), .slice fo fl fc, .slice fo2 fl2 fc2]) (by first | (simp [results, Tryz.results106, go_sem, r0, r1, r2]; done) | (simp [results, Tryz.results106, go_sem, r0, r1, r2]; rfl)) rfl ?_
    exact ⟨_, rfl, FV.other F1.out NW.out gr_three, gr_set (gr_set (gr_set (gr_none GW.out HG.out) _ _ (by simp)) _ _ (by simp)) _ _ (by simp)⟩
theorem slope_at (x : Value) (n : Nat) (p : Nat → Rat) (L : Nat) (w : World) (hx : Rw w x n p L) (hp : PL p n) (hn1 : 1 < n) (hn : n ≤ 3000) (hL : L ≤ 1000000000000) (hfit : ∀ i, FitW L (slopeP p i)) :
    Calls Tryz.prog 73 #[x] w fun e w' => PolE w (slopeP p) L e w' := by
  have HX := hide hx
  have HF := hide hfit
  have HP := hide hp
  obtain ⟨xo, xc, rfl, hc, hm, _⟩ := hx
  unfold maxLen at hm
  clear hp hfit
  obtain ⟨k, rfl⟩ : ∃ k, n = k + 1 := ⟨n - 1, by omega⟩
  obtain ⟨W, hW⟩ : ∃ W, W = w.alloc (Obj.cells #[.slice xo (k + 1) xc] 63) := ⟨_, rfl⟩
  have GW : Hid (w.grownBy W none) := by rw [hW]; exact gr_alloc (gr_refl _ _) _
  have CX : Hid (W.cell? ⟨w.heap.size, 0, none⟩ = some (.slice xo (k + 1) xc)) := by
    show _ = _
    rw [hW]
    go_simp
  have s0 := CX.out
  have ew : (((k + 1 : Nat) : Int) - 1) = ((k : Nat) : Int) := by omega
  go_enter Tryz.func73, Tryz.ntmps73
  go_upto_region 1 with fail
  rw [← hW]
  clear hW
  go_wp2_with fail
  try rw [ew]
  refine (filled_pol k 106 #[] #[.pointer (some ⟨w.heap.size, 0, none⟩)] (slopeP p) L W entSlope1 (by omega) (fun i hi => (PL_slope HP.out).1 i (by omega)) ?_).mono ?_
  · intro i hi wx hg
    obtain ⟨ao, c, e, h1, h2, h3⟩ := HX.out
    simp only [Value.slice.injEq, true_and] at e
    obtain ⟨rfl, rfl⟩ := e
    obtain ⟨gx, rfl, hr⟩ := h3 (by omega)
    have hg2 := gr_none GW.out hg
    exact (slope1_at w.heap.size gx (k + 1) xc p i L wx (hg.cell CX.out (by simp)) (hr.keep0 hg2) (by omega) hn hc (by unfold maxLen; omega) hL (HF.out i)).mono (fun _ _ h => h)
  · rintro e w2 ⟨v, m, rfl, h1, h2, h3⟩
    obtain ⟨ao, c, rfl, k1, k2, k3⟩ := h1
    have K3 := hide k3
    have K2 := hide k2
    have H2 := hide h2
    have H3 := hide h3
    clear k3 k2 h2 h3 s0
    go_wp2
    go_ret
    exact ⟨_, m, rfl, ⟨ao, c, rfl, k1, K2.out, K3.out⟩, H2.out, gr_none GW.out H3.out⟩
def RRtF : Nat → (Nat → Rat) → Nat → Int → Prop
  | 0, x, a, c => a ≤ 1 ∧ c = 0
  | n + 1, x, a, c => (a ≤ 1 ∧ c = 0) ∨ (1 < a ∧ ∃ (u : Int) (s : Nat → Rat) (d : Nat) (c' : Int) (k1 k2 : Rat), 0 < k1 ∧ 0 < k2 ∧ Jmp (fun i => k1 * x i) a (fun i => k2 * slopeP x i) (a - 1) u s d ∧ c = u + c' ∧ RRtF n s d c')
def RRt (x : Nat → Rat) (a : Nat) (c : Int) : Prop := ∃ n, RRtF n x a c
theorem RRt.over0 (x : Nat → Rat) (a : Nat) (h : a ≤ 1) : RRt x a 0 := ⟨0, h, rfl⟩
theorem RRt.more (x : Nat → Rat) (a : Nat) (u : Int) (s : Nat → Rat) (d : Nat) (c : Int) (k1 k2 : Rat) (h : 1 < a) (h1 : 0 < k1) (h2 : 0 < k2) (hj : Jmp (fun i => k1 * x i) a (fun i => k2 * slopeP x i) (a - 1) u s d) (hr : RRt s d c) : RRt x a (u + c) := by
  obtain ⟨n, hn⟩ := hr
  exact ⟨n + 1, .inr ⟨h, u, s, d, c, k1, k2, h1, h2, hj, rfl, hn⟩⟩
theorem RRt.parted {x : Nat → Rat} {a : Nat} {c : Int} (h : RRt x a c) : (a ≤ 1 ∧ c = 0) ∨ (1 < a ∧ ∃ (u : Int) (s : Nat → Rat) (d : Nat) (c' : Int) (k1 k2 : Rat), 0 < k1 ∧ 0 < k2 ∧ Jmp (fun i => k1 * x i) a (fun i => k2 * slopeP x i) (a - 1) u s d ∧ c = u + c' ∧ RRt s d c') := by
  obtain ⟨n, hn⟩ := h
  match n, hn with
  | 0, h => exact .inl h
  | n + 1, .inl h => exact .inl h
  | n + 1, .inr ⟨h0, u, s, d, c', k1, k2, h1, h2, h3, h4, h5⟩ => exact .inr ⟨h0, u, s, d, c', k1, k2, h1, h2, h3, h4, n, h5⟩
def RRtR (W : World) (x0 : Nat → Rat) (n K L : Nat) (v0 v3 : Value) (wr : World) : Prop :=
  ∃ (x : Nat → Rat) (a : Nat) (u : Int) (mx : Nat), Rw wr v0 a x L ∧ PL x a ∧ a ≤ 13 ∧ Whl x mx ∧ mx + 3 ≤ vB K a ∧ v3 = .int .i64 u ∧ -13 * (13 - (a : Int)) ≤ u ∧ u ≤ 13 * (13 - (a : Int)) ∧ (∀ c, RRt x a c → RRt x0 n (u + c)) ∧ W.grownBy wr none
theorem rroots_at (xv : Value) (n : Nat) (p : Nat → Rat) (mx0 K L : Nat) (w : World) (hx : Rw w xv n p L) (px : PL p n) (hn0 : 0 < n) (hn : n ≤ 13) (hL : L ≤ 1000000000000) (hVL : vB K 1 ≤ L) (wx : Whl p mx0) (hmx : mx0 + 3 ≤ vB K n) :
    Calls Tryz.prog 35 #[xv] w fun e w' => ∃ c : Int, e = .returned (.int .i64 c) ∧ RRt p n c ∧ -169 ≤ c ∧ c ≤ 169 ∧ w.grownBy w' none := by
  have HX := hide hx
  have PX := hide px
  have WX := hide wx
  have MX := hide hmx
  have hL1 : 1 ≤ L := Nat.le_trans (Nat.le_trans (by decide) (vB_pos K 1)) hVL
  have HVL := hide hVL
  obtain ⟨xo, xc, rfl, _, _, _⟩ := hx
  clear px wx hmx hVL
  go_enter Tryz.func35, Tryz.ntmps35
  go_wp2
  go_loopw [0, 3, 4] (fun v0 v3 _ wr => Hid (RRtR w p n K L v0 v3 wr)) (fun v0 _ _ _ => lenOf v0)
  case atStart => exact ⟨p, n, 0, mx0, HX.out, PX.out, hn, WX.out, MX.out, rfl, by omega, by omega, fun c h => by rw [Int.zero_add]; exact h, gr_refl _ _⟩
  case round =>
    obtain ⟨x, a, u, mx, r1, r2, r3, r4, r5, rfl, r7, r8, r9, r10⟩ := hrel.out
    have XR := hide r1
    have XP := hide r2
    have XW := hide r4
    have M5 := hide r5
    have JJ := hide r9
    have GR := hide r10
    obtain ⟨ao, ac, rfl, hac, ham, _⟩ := r1
    unfold maxLen at ham
    clear r2 r4 r5 r9 r10 hrel HX PX WX MX
    by_cases h1 : a ≤ 1
    · have hlt : ¬ (1 : Int) < ((a : Nat) : Int) := by omega
      have hj := hide (JJ.out 0 (.over0 x a h1))
      clear h1
      go_wp2
      go_ret
      have hj' := hj.out
      rw [Int.add_zero] at hj'
      exact ⟨u, rfl, hj', by omega, by omega, GR.out⟩
    · have hlt : (1 : Int) < ((a : Nat) : Int) := by omega
      have hmL : mx + 3 ≤ L := by
        have h2 := vB_one K a (by omega)
        have h3 := HVL.out
        have h4 := M5.out
        omega
      go_wp2_with fail
      refine (slope_at _ a x L wr XR.out XP.out (by omega) (by omega) hL (fun i => (slope_whl XP.out r3 XW.out).fit (by omega) hL1 i)).mono ?_
      rintro e w2 ⟨v2, m2, rfl, k1, k2, k3⟩
      have em : a - 1 = m2 := PL_uniq (PL_slope XP.out) k2
      subst em
      have R2 := hide k1
      have G2 := hide k3
      obtain ⟨so, sc, rfl, _, _, _⟩ := k1
      clear k2 k3
      go_wp2_with fail
      refine (jumps_at _ _ a (a - 1) x (slopeP x) mx (mx + 1) K L w2 (XR.out.keep0 G2.out) R2.out XP.out (PL_slope XP.out) (by omega) r3 hL HVL.out (fun i _ => shr_fit XW.out (by omega) hL1 i) (fun i _ => (plain_whl XP.out XW.out).fit (by omega) hL1 i)
        (fun i _ => shr_fit (slope_whl XP.out r3 XW.out) (by omega) hL1 i) (fun i _ => (plain_whl (PL_slope XP.out) (slope_whl XP.out r3 XW.out)).fit (by omega) hL1 i) (plain_whl XP.out XW.out) M5.out (plain_whl (PL_slope XP.out) (slope_whl XP.out r3 XW.out)) (by have := M5.out; omega)).mono ?_
      rintro e w3 ⟨u3, v3, s, d, ms, rfl, q1, q2, q3, q4, q5, q6, q7, q8, q9, q10, q11⟩
      have R3 := hide q1
      have P3 := hide q2
      have W3 := hide q6
      have M3 := hide q7
      have J3 := hide q10
      have G3 := hide (gr_none G2.out q11)
      have hda := q5 (by omega)
      obtain ⟨zo, zc, rfl, _, _, _⟩ := q1
      clear q2 q5 q6 q7 q10 q11
      go_wp2
      go_roundw
      case rel =>
        obtain ⟨k1, hk1, e1⟩ := plain_scale XP.out
        obtain ⟨k2, hk2, e2⟩ := plain_scale (PL_slope XP.out)
        refine ⟨s, d, u + u3, ms, R3.out, P3.out, by omega, W3.out, M3.out, by first | rfl | go_num | (simp only [Value.int.injEq, true_and]; omega), by omega, by omega, fun c hc => ?_, gr_none GR.out G3.out⟩
        have hj := J3.out
        rw [e1, e2] at hj
        have := JJ.out _ (.more x a u3 s d c k1 k2 (by omega) hk1 hk2 hj hc)
        rw [← Int.add_assoc] at this
        exact this
      case measure => simp [lenOf]; omega
end Go.Proofs.YtklkpkkjakllfaaGreatDoor
