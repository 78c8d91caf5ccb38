/- frac: commonDivisor: Euclid's way, in Lehmer's strides. -/
import Derived.Test.YtgdiepfknfnmjaaGreatDoorFStride
import Derived.Deep.LoopGhost
import Derived.Deep.RegionHeld3
namespace Go.Proofs.YtgdiepfknfnmjaaGreatDoor
open Go.RowKit
set_option linter.unusedVariables false

/-- commonDivisor's loop. -/
def GcdR (w : World) (G L : Nat) (k : Nat) (av bv : Value) (wr : World) : Prop :=
  ∃ xs ys : List Nat, Ws wr av xs ∧ Ws wr bv ys ∧ Tr xs ∧ Tr ys ∧ 0 < val xs ∧ xs.length ≤ L ∧ ys.length ≤ L ∧ Nat.gcd (val xs) (val ys) = G ∧ w.grownBy wr none ∧ val ys = k ∧ val ys ≤ val xs

theorem toNat_gcd {u v X Y : Int} (h : Int.gcd u v = Int.gcd X Y) (hu : 0 ≤ u) (hv : 0 ≤ v) (hX : 0 ≤ X) (hY : 0 ≤ Y) : Nat.gcd u.toNat v.toNat = Nat.gcd X.toNat Y.toNat := by
  have e : ∀ z : Int, 0 ≤ z → z.natAbs = z.toNat := fun z hz => by omega
  unfold Int.gcd at h
  rw [e u hu, e v hv, e X hX, e Y hY] at h
  exact h

/-- What a stride that is one gives. -/
theorem IsStride.gives {X Y : Nat} {a b c d : Int} (h : IsStride X Y a b c d) :
    (-1073741824 < a ∧ a < 1073741824) ∧ (-1073741824 < b ∧ b < 1073741824) ∧ (-1073741824 < c ∧ c < 1073741824) ∧ (-1073741824 < d ∧ d < 1073741824) ∧
    0 ≤ a * X + b * Y ∧ a * X + b * Y ≤ X ∧ 0 ≤ c * X + d * Y ∧ c * X + d * Y ≤ X ∧ 0 < (a * X + b * Y).toNat ∧ (c * X + d * Y).toNat ≤ (a * X + b * Y).toNat ∧
    Nat.gcd (a * X + b * Y).toNat (c * X + d * Y).toNat = Nat.gcd X Y ∧ (b ≠ 0 → (c * X + d * Y).toNat < Y) := by
  obtain ⟨P, H, N, hi, nx, h⟩ := h
  have u0 := h.u0
  have v0 := h.v0
  have vu := h.vu
  have ux := h.ux
  refine ⟨h.ha, h.hb, h.hc, h.hd, by omega, ux, v0, by omega, by omega, by omega, ?_, ?_⟩
  · have := toNat_gcd h.g (by omega) v0 (Int.natCast_nonneg _) (Int.natCast_nonneg _)
    rw [this, Int.toNat_natCast, Int.toNat_natCast]
  · intro hb
    rcases h.bs with ⟨_, e, _⟩ | ⟨_, e⟩
    · exact absurd e hb
    · omega

theorem bits_le {n k : Nat} (h : BitsOf n k) (hk : k ≤ 62) : n < 4611686018427387904 := by
  rcases h with ⟨h, _⟩ | ⟨_, _, h⟩
  · omega
  · have := Nat.pow_le_pow_right (n := 2) (by decide) hk
    omega

theorem bits_gt {n k : Nat} (h : BitsOf n k) (hk : 62 < k) : 4611686018427387904 ≤ n := by
  rcases h with ⟨_, h⟩ | ⟨_, h, _⟩
  · omega
  · have := Nat.pow_le_pow_right (n := 2) (by decide) (show 62 ≤ k - 1 by omega)
    omega

/-- The words of a number of two words. -/
theorem two_words (n : Nat) (h : n < 18446744073709551616) : Sm [n % 4294967296, n / 4294967296] ∧ val [n % 4294967296, n / 4294967296] = n := by
  constructor
  · exact Sm.cons (by omega) (Sm.cons (by omega) Sm.nil)
  · simp only [val]; omega

theorem Num.shape {w : World} {v : Value} {n L : Nat} (h : Num w v n L) : ∃ o l c, v = .slice o l c ∧ (l = 0 ↔ n = 0) ∧ l ≤ c ∧ c ≤ maxLen := by
  obtain ⟨xs, h1, h2, h3, h4⟩ := h
  obtain ⟨o, c, rfl, h5, h6, _⟩ := h1.open
  refine ⟨o, _, c, rfl, ?_, h5, h6⟩
  constructor
  · intro e
    have : xs = [] := List.eq_nil_of_length_eq_zero e
    rw [this] at h3
    simp [val] at h3
    omega
  · intro e
    rcases Nat.eq_zero_or_pos xs.length with h | h
    · exact h
    · have := tr_ge h2 (by intro e; rw [e] at h; simp at h)
      have p3 : 0 < 4294967296 ^ (xs.length - 1) := Nat.pow_pos (by decide)
      omega

theorem gr_dn2 {w : World} (k : Nat) : w.grownBy (w.drewN k) none := gr_drewN (gr_refl _ _) k

theorem gr_drew1 {w : World} : w.grownBy w.drew none := gr_drewN (gr_refl _ _) 1

/-- What commonDivisor answers. -/
def GcdE (w : World) (G L : Nat) (e : Ending) (w' : World) : Prop := ∃ g, e = .returned g ∧ Num w' g G L ∧ w.grownBy w' none

/-- The last loop. -/
def LastR (G : Nat) (hv lv : Value) : Prop := ∃ h l : Nat, hv = .int .i64 (h : Nat) ∧ lv = .int .i64 (l : Nat) ∧ h < 4611686018427387904 ∧ l < 4611686018427387904 ∧ Nat.gcd h l = G

set_option maxHeartbeats 8000000 in
set_option maxRecDepth 10000 in
theorem commonDivisor_ws (va vb : Value) (xs0 ys0 : List Nat) (w : World) (ha : Ws w va xs0) (hb : Ws w vb ys0) (tx0 : Tr xs0) (ty0 : Tr ys0) (hx0 : 0 < val xs0 ∨ 0 < val ys0) (L : Nat) (hlx : xs0.length ≤ L) (hly : ys0.length ≤ L) (hl : L ≤ 800000000) :
    Calls Tryz.prog 64 #[va, vb] w fun e w' => GcdE w (Nat.gcd (val xs0) (val ys0)) L e w' := by
  obtain ⟨ao, ca, ea, hca, hca', Ha⟩ := ha.open
  obtain ⟨bo, cb, eb, hcb, hcb', Hb⟩ := hb.open
  obtain ⟨G, hG⟩ : ∃ G, G = Nat.gcd (val xs0) (val ys0) := ⟨_, rfl⟩
  rw [← hG]
  have key : (∃ k0, (∀ wq, w.grownBy wq none → GcdR w G L k0 (.slice bo ys0.length cb) (.slice ao xs0.length ca) wq) ∧ ord (val xs0) (val ys0) < 0) ∨ (∃ k0, (∀ wq, w.grownBy wq none → GcdR w G L k0 (.slice ao xs0.length ca) (.slice bo ys0.length cb) wq) ∧ 0 ≤ ord (val xs0) (val ys0)) := by
    rcases Nat.lt_or_ge (val xs0) (val ys0) with hlt | hle
    · exact .inl ⟨val xs0, fun wq hq => ⟨ys0, xs0, by rw [← eb]; exact hb.keep0 hq, by rw [← ea]; exact ha.keep0 hq, ty0, tx0, by omega, hly, hlx, by rw [Nat.gcd_comm]; exact hG.symm, hq, rfl, Nat.le_of_lt hlt⟩, ord_neg hlt⟩
    · exact .inr ⟨val ys0, fun wq hq => ⟨xs0, ys0, by rw [← ea]; exact ha.keep0 hq, by rw [← eb]; exact hb.keep0 hq, tx0, ty0, by omega, hlx, hly, hG.symm, hq, rfl, hle⟩, ord_ge hle⟩
  have WA := hide ha
  have WB := hide hb
  have TX := hide tx0
  have TY := hide ty0
  subst ea eb
  clear Ha Hb ha hb tx0 ty0 hx0 hlx hly hG hca hca' hcb hcb'
  rcases key with ⟨k0, h0, hord⟩ | ⟨k0, h0, hord⟩
  all_goals
    have H0 := hide h0
    clear h0
    go_enter Tryz.func64, Tryz.ntmps64
    go_wp2_with fail
    refine (fcompare_ws _ _ xs0 ys0 _ WA.out WB.out TX.out TY.out).mono ?_
    rintro e w1 ⟨rfl, q1, rfl⟩
    generalize ord (val xs0) (val ys0) = o1 at hord ⊢
    clear WA WB TX TY
    go_wp2
    go_loopg [0, 1] k0 (fun k av bv wr => Hid (GcdR w G L k av bv wr))
    case atStart => exact H0.out _ (gr_d _)
    case round =>
      obtain ⟨xs, ys, h1, h2, h3, h4, h5, h6, h7, h8, h9, h10, h11⟩ := hrel.out
      obtain ⟨ao', ca', rfl, hca, hca', _⟩ := h1.open
      obtain ⟨bo', cb', rfl, hcb, hcb', _⟩ := h2.open
      unfold maxLen at hca' hcb'
      have hyx : ys.length ≤ xs.length := len_le h2.sm h4 h1.sm h11
      have H1 := hide h1
      have H2 := hide h2
      have H3 := hide h3
      have H4 := hide h4
      have H5 := hide h5
      have H8 := hide h8
      have H9 := hide h9
      have H10 := hide h10
      have H11 := hide h11
      clear h1 h2 h3 h4 h5 h8 h9 h10 h11 hrel H0
      go_wp2_with fail
      refine (bits_num _ (val ys) L _ ⟨ys, H2.out, H4.out, rfl, h7⟩ (by omega)).mono ?_
      rintro e w2 ⟨kb, rfl, hkb, hkb2, rfl⟩
      by_cases hbig : 62 < kb
      · have hY := hide (bits_gt hkb hbig)
        clear hkb hkb2
        go_wp2_with fail
        refine (strideOf_ws _ _ xs ys _ H1.out H2.out H3.out H11.out hY.out (by omega)).mono ?_
        rintro e w3 ⟨a, b, c, d, rfl, hst, g3⟩
        obtain ⟨i1, i2, i3, i4, i5, i6, i7, i8, i9, i10, i11, i12⟩ := hst.gives
        have G3 := hide g3
        have I5 := hide i5
        have I6 := hide i6
        have I7 := hide i7
        have I8 := hide i8
        have I9 := hide i9
        have I10 := hide i10
        have I11 := hide i11
        have I12 := hide i12
        clear hst g3 i5 i6 i7 i8 i9 i10 i11 i12
        by_cases hb0 : b = 0
        · have bb : (b == 0) = true := beq_iff_eq.2 hb0
          clear hb0
          have hq0 : Hid (0 < val ys) := by have := hY.out; show 0 < val ys; omega
          have ga : w3.grownBy (w3.alloc (Obj.cells #[Value.int .i64 a, Value.int .i64 b, Value.int .i64 c, Value.int .i64 d] 128)) none := gr_alloc (gr_refl _ _) _
          have GA := hide (gr_none G3.out ga)
          clear ga
          go_wp2_with fail
          refine (divide_num _ _ (val xs) (val ys) L L _ ⟨xs, H1.out.keep0 GA.out, H3.out, rfl, h6⟩ ⟨ys, H2.out.keep0 GA.out, H4.out, rfl, h7⟩ hq0.out (by omega)).mono ?_
          intro e w4 hD
          obtain ⟨q, r, rfl, k1, ⟨rs, r1, r2, r3, r4⟩, k3, k4, k5⟩ := hD
          obtain ⟨ro', cr', rfl, hcr, hcr', _⟩ := r1.open
          obtain ⟨qo', ql', qc', rfl, _, _, _⟩ := k1.shape
          have R1 := hide r1
          have R2 := hide r2
          have R3 := hide r3
          have K3 := hide k3
          clear k1 r1 r2 r3 k3 k4 k5
          go_wp2
          have hm := Nat.mod_lt (val xs) hq0.out
          go_roundg (val rs)
          case measure => rw [R3.out, ← H10.out]; exact hm
          case rel => exact ⟨ys, rs, H2.out.keep0 (gr_none GA.out K3.out), R1.out, H4.out, R2.out, hq0.out, h7, r4, by rw [R3.out, Nat.gcd_comm, ← Nat.gcd_rec, Nat.gcd_comm]; exact H8.out, gr_none H9.out (gr_none GA.out K3.out), rfl, by rw [R3.out]; exact Nat.le_of_lt hm⟩
        · have bb : (b == 0) = false := beq_eq_false_iff_ne.2 hb0
          have HB0 := hide hb0
          clear hb0
          obtain ⟨W, hW⟩ : ∃ W, W = w3.alloc (Obj.cells #[Value.int .i64 a, Value.int .i64 b, Value.int .i64 c, Value.int .i64 d] 128) := ⟨_, rfl⟩
          have hF : Four W w3.heap.size a b c d := by
            rw [hW]
            show (w3.heap.push _)[w3.heap.size]? = _
            rw [Array.getElem?_push_size]
          have GW := hide (gr_none G3.out (show w3.grownBy W none by rw [hW]; exact gr_alloc (gr_refl _ _) _))
          have CELLS : Hid (∀ wx, W.grownBy wx none → wx.cell? ⟨w3.heap.size, 0, none⟩ = some (.int .i64 a) ∧ wx.cell? ⟨w3.heap.size, 1, none⟩ = some (.int .i64 b) ∧ wx.cell? ⟨w3.heap.size, 2, none⟩ = some (.int .i64 c) ∧ wx.cell? ⟨w3.heap.size, 3, none⟩ = some (.int .i64 d)) := by
            intro wx hg
            obtain ⟨s0, s1, s2, s3, _⟩ := hF.cells
            exact ⟨hg.cell s0 (by simp), hg.cell s1 (by simp), hg.cell s2 (by simp), hg.cell s3 (by simp)⟩
          have WSX : Hid (∀ wx, W.grownBy wx none → Ws wx (.slice ao' xs.length ca') xs) := fun wx hg => H1.out.keep0 (gr_none GW.out hg)
          have WSY : Hid (∀ wx, W.grownBy wx none → Ws wx (.slice bo' ys.length cb') ys) := fun wx hg => H2.out.keep0 (gr_none GW.out hg)
          obtain ⟨s0, s1, s2, s3⟩ := CELLS.out W (gr_refl _ _)
          have hl2 : xs.length ≤ 1000000000 := by omega
          clear hF
          go_wp2
          rw [← hW]
          clear hW
          go_region_held3 (fun w' => w'.cell? ⟨w3.heap.size, 0, none⟩ = some (.int .i64 a) ∧ w'.cell? ⟨w3.heap.size, 1, none⟩ = some (.int .i64 b) ∧ w'.cell? ⟨w3.heap.size, 2, none⟩ = some (.int .i64 c) ∧ w'.cell? ⟨w3.heap.size, 3, none⟩ = some (.int .i64 d)) (go_keep)
            (first | (go_at_call_of 108 (Value.int .i64 a); refine (combine_ws _ _ xs ys a b _ _ (WSX.out _ (by first | exact gr_dn2 _ | exact gr_none G1 (gr_dn2 _) | exact gr_none G2 (gr_dn2 _) | exact gr_refl _ _ | exact G1 | exact G2)) (WSY.out _ (by first | exact gr_dn2 _ | exact gr_none G1 (gr_dn2 _) | exact gr_none G2 (gr_dn2 _) | exact gr_refl _ _ | exact G1 | exact G2)) hyx i1.1 i1.2 i2.1 i2.2 rfl I5.out I6.out hl2).mono ?_; rintro e w4 ⟨v1, rfl, k1, k2, k3⟩; have G1 : W.grownBy w4 none := gr_none (by first | exact gr_dn2 _ | exact gr_none G1 (gr_dn2 _) | exact gr_none G2 (gr_dn2 _) | exact gr_refl _ _ | exact G1 | exact G2) k2; have s10 := (CELLS.out w4 G1).1; have s11 := (CELLS.out w4 G1).2.1; have s12 := (CELLS.out w4 G1).2.2.1; have s13 := (CELLS.out w4 G1).2.2.2) | (go_at_call_of 108 (Value.int .i64 c); refine (combine_ws _ _ xs ys c d _ _ (WSX.out _ (by first | exact gr_dn2 _ | exact gr_none G1 (gr_dn2 _) | exact gr_none G2 (gr_dn2 _) | exact gr_refl _ _ | exact G1 | exact G2)) (WSY.out _ (by first | exact gr_dn2 _ | exact gr_none G1 (gr_dn2 _) | exact gr_none G2 (gr_dn2 _) | exact gr_refl _ _ | exact G1 | exact G2)) hyx i3.1 i3.2 i4.1 i4.2 rfl I7.out I8.out hl2).mono ?_; rintro e w5 ⟨v2, rfl, m1, m2, m3⟩; have G2 : W.grownBy w5 none := gr_none (by first | exact gr_dn2 _ | exact gr_none G1 (gr_dn2 _) | exact gr_none G2 (gr_dn2 _) | exact gr_refl _ _ | exact G1 | exact G2) m2; have s20 := (CELLS.out w5 G2).1; have s21 := (CELLS.out w5 G2).2.1; have s22 := (CELLS.out w5 G2).2.2.1; have s23 := (CELLS.out w5 G2).2.2.2))
          all_goals first
            | (have K1 := hide (k1.keep0 (by first | exact m2 | exact gr_none gr_drew1 m2 | exact gr_none (gr_dn2 _) m2)); have M1 := hide m1; have GF := hide (gr_none GW.out G2); clear k1 k2 k3 m1 m2 m3 G1 G2 s10 s11 s12 s13 s20 s21 s22 s23)
            | (have K1 := hide k1; have M1 := hide (m1.keep0 (by first | exact k2 | exact gr_none gr_drew1 k2 | exact gr_none (gr_dn2 _) k2)); have GF := hide (gr_none GW.out G1); clear k1 k2 k3 m1 m2 m3 G1 G2 s10 s11 s12 s13 s20 s21 s22 s23)
          all_goals
            obtain ⟨us, x1, x2, x3, x4⟩ := K1.out
            obtain ⟨vs, y1, y2, y3, y4⟩ := M1.out
            obtain ⟨uo, uc, rfl, hu1, hu2, _⟩ := x1.open
            obtain ⟨vo, vc, rfl, hv1, hv2, _⟩ := y1.open
            have X1 := hide x1
            have X2 := hide x2
            have X3 := hide x3
            have Y1 := hide y1
            have Y2 := hide y2
            have Y3 := hide y3
            clear x1 x2 x3 y1 y2 y3 K1 M1 s0 s1 s2 s3
            go_wp2
            go_roundg (val vs)
            case measure => rw [Y3.out, ← H10.out]; exact I12.out HB0.out
            case rel => exact ⟨us, vs, X1.out, Y1.out, X2.out, Y2.out, by rw [X3.out]; exact I9.out, by omega, by omega, by rw [X3.out, Y3.out, I11.out]; exact H8.out, gr_none H9.out GF.out, rfl, by rw [X3.out, Y3.out]; exact I10.out⟩
      · have hsm := hide (bits_le hkb (by omega))
        clear hkb hkb2
        by_cases hy0 : ys.length = 0
        · have E0 : Hid (ys = []) := List.eq_nil_of_length_eq_zero hy0
          have bb : (((ys.length : Nat) : Int) == 0) = true := beq_iff_eq.2 (by omega)
          clear hy0
          go_wp2
          go_ret
          refine ⟨_, rfl, ⟨xs, H1.out, H3.out, ?_, h6⟩, H9.out⟩
          have := H8.out
          rw [E0.out] at this
          simp only [val, Nat.gcd_zero_right] at this
          exact this
        · have bb : (((ys.length : Nat) : Int) == 0) = false := beq_eq_false_iff_ne.2 (by omega)
          have hq0 : Hid (0 < val ys) := by
            have := tr_ge H4.out (by intro e; rw [e] at hy0; simp at hy0)
            have p3 : 0 < 4294967296 ^ (ys.length - 1) := Nat.pow_pos (by decide)
            show 0 < val ys
            omega
          clear hy0
          go_wp2_with fail
          refine (divide_num _ _ (val xs) (val ys) L L _ ⟨xs, H1.out, H3.out, rfl, h6⟩ ⟨ys, H2.out, H4.out, rfl, h7⟩ hq0.out (by omega)).mono ?_
          intro e w4 hD
          obtain ⟨q, r, rfl, k1, ⟨rs, r1, r2, r3, r4⟩, k3, k4, k5⟩ := hD
          obtain ⟨ro', cr', rfl, hcr, hcr', _⟩ := r1.open
          obtain ⟨qo', ql', qc', rfl, _, _, _⟩ := k1.shape
          have hm := Nat.mod_lt (val xs) hq0.out
          have hlo : Hid (val rs < 4611686018427387904) := by have := hsm.out; show val rs < _; omega
          have R1 := hide r1
          have R3 := hide r3
          have K3 := hide k3
          obtain ⟨yn, hyn⟩ : ∃ yn, yn = val ys := ⟨_, rfl⟩
          obtain ⟨rn, hrn⟩ : ∃ rn, rn = val rs := ⟨_, rfl⟩
          have hynb : yn < 4611686018427387904 := by rw [hyn]; exact hsm.out
          have hrnb : rn < 4611686018427387904 := by rw [hrn]; exact hlo.out
          have HG : Hid (Nat.gcd yn rn = G) := by rw [hyn, hrn, R3.out, Nat.gcd_comm, ← Nat.gcd_rec, Nat.gcd_comm]; exact H8.out
          have HYN := hide hyn
          have HRN := hide hrn
          clear k1 r1 r2 r3 k3 k4 k5 hm hyn hrn
          go_wp2_with fail
          refine (bitsFrom_ws _ ys 0 _ (H2.out.keep0 K3.out) (by rw [Nat.pow_zero, Nat.div_one]; exact hsm.out) (by omega)).mono ?_
          rintro e w5 ⟨rfl, q5, rfl⟩
          rw [Nat.pow_zero, Nat.div_one, ← HYN.out]
          go_wp2_with fail
          refine (bitsFrom_ws _ rs 0 _ (R1.out.keep0 (gr_d _)) (by rw [Nat.pow_zero, Nat.div_one]; exact hlo.out) (by omega)).mono ?_
          rintro e w6 ⟨rfl, q6, rfl⟩
          rw [Nat.pow_zero, Nat.div_one, ← HRN.out]
          have GW : Hid (w.grownBy ((w4.drewN q5).drewN q6) none) := gr_none H9.out (gr_none K3.out (gr_none (gr_d _) (gr_d _)))
          obtain ⟨W, hW⟩ : ∃ W, W = (w4.drewN q5).drewN q6 := ⟨_, rfl⟩
          rw [← hW] at GW ⊢
          clear hW
          go_wp2
          go_loopw [10, 11] (fun hv lv wr => Hid (LastR G hv lv ∧ w.grownBy wr none)) (fun _ lv _ => (intOf lv).toNat)
          case atStart => exact ⟨⟨yn, rn, rfl, rfl, hynb, hrnb, HG.out⟩, GW.out⟩
          case round =>
            obtain ⟨⟨h, l, rfl, rfl, hh, hl', hg⟩, hgr⟩ := hrel.out
            have HG2 := hide hg
            have HGR := hide hgr
            clear hg hgr hrel
            by_cases hl0 : 0 < l
            · have zz : (((l : Nat) : Int) == 0) = false := beq_eq_false_iff_ne.2 (by omega)
              obtain ⟨m, hm⟩ : ∃ m, m = h % l := ⟨_, rfl⟩
              have hmb : m < l := by rw [hm]; exact Nat.mod_lt _ hl0
              have e1 : ((h : Nat) : Int).tmod (l : Int) = (m : Int) := by
                rw [Int.tmod_eq_emod_of_nonneg (by omega), hm]
                exact (Int.natCast_emod h l).symm
              have HM := hide hm
              clear hm
              go_wp2
              go_quiet (fail)
              go_wp2
              go_roundw
              case rel => exact ⟨⟨l, m, rfl, rfl, hl', by omega, by rw [HM.out, Nat.gcd_comm, ← Nat.gcd_rec, Nat.gcd_comm]; exact HG2.out⟩, gr_none HGR.out (gr_dn2 _)⟩
              case measure => simp [intOf]; omega
            · obtain rfl : l = 0 := by omega
              have hG : Hid (h = G) := by have := HG2.out; rw [Nat.gcd_zero_right] at this; exact this
              obtain ⟨x0, hx0⟩ : ∃ x0, x0 = h % 4294967296 := ⟨_, rfl⟩
              obtain ⟨x1, hx1⟩ : ∃ x1, x1 = h / 4294967296 := ⟨_, rfl⟩
              have e0 : ((h : Nat) : Int) % 4294967296 = (x0 : Int) := by omega
              have e1 : ((h : Nat) : Int) / 4294967296 = (x1 : Int) := by omega
              obtain ⟨t1, t2⟩ := two_words h (by omega)
              rw [← hx0, ← hx1] at t1 t2
              have T1 := hide t1
              have T2 := hide t2
              clear t1 t2 hx0 hx1 HG2
              go_wp2_with fail
              have ha : Arr (wr.alloc (Obj.cells #[Value.int IntKind.u32 (x0 : Int), Value.int IntKind.u32 (x1 : Int)] 96)) wr.heap.size [x0, x1] := by
                unfold Arr
                show (wr.heap.push _)[wr.heap.size]? = _
                rw [Array.getElem?_push_size]
                rfl
              have hw := ha.ws T1.out (by unfold maxLen; simp)
              clear ha
              refine (ftrim_num _ _ _ hw).mono ?_
              rintro e w7 ⟨v', rfl, rfl, k1, k2⟩
              have K1 := hide k1
              clear hw k1 k2
              go_wp2
              go_ret
              obtain ⟨zs, z1, z2, z3, z4⟩ := K1.out
              rw [T2.out, hG.out] at z3
              have hGl : G ≤ val ys := by rw [← H8.out]; exact Nat.gcd_le_right _ hq0.out
              have hzl := len_le z1.sm z2 H2.out.sm (show val zs ≤ val ys by omega)
              exact ⟨v', rfl, ⟨zs, z1, z2, z3, by omega⟩, gr_alloc HGR.out _⟩
end Go.Proofs.YtgdiepfknfnmjaaGreatDoor
