/- Products with s - x and with s s - 2 x s + (x x + y y): their numbers, and how long these are. -/
import Derived.Test.YtklkpkkjakllfaaGreatDoorXKc
import Derived.Test.YtklkpkkjakllfaaGreatDoorXTc
set_option linter.unusedVariables false
set_option linter.unusedSimpArgs false
set_option maxHeartbeats 8000000
set_option maxRecDepth 10000
namespace Go.Proofs.YtklkpkkjakllfaaGreatDoor.K
def cnvS (P Q : Po) (k : Nat) : Nat → Rat
  | 0 => 0
  | j + 1 => cnvS P Q k j + P j * Q (k - j)
def cnv (P Q : Po) : Po := fun k => cnvS P Q k (k + 1)
def q2 (x : Rat) : Po
  | 0 => 0 - x
  | 1 => 1
  | _ => 0
def q3 (x y : Rat) : Po
  | 0 => x * x + y * y
  | 1 => -2 * x
  | 2 => 1
  | _ => 0
theorem cnv_low {P Q : Po} {k : Nat} : ∀ j, (∀ i, i < j → Q (k - i) = 0) → cnvS P Q k j = 0
  | 0, _ => rfl
  | j + 1, h => by
    rw [cnvS, cnv_low j (fun i hi => h i (by omega)), h j (by omega)]
    grind
theorem q2_out (x : Rat) {i : Nat} (h : 2 ≤ i) : q2 x i = 0 := by
  match i, h with
  | i + 2, _ => rfl
theorem q3_out (x y : Rat) {i : Nat} (h : 3 ≤ i) : q3 x y i = 0 := by
  match i, h with
  | i + 3, _ => rfl
theorem cnv_q2 (P : Po) (x : Rat) : cnv P (q2 x) = ln 1 (-x) P := by
  funext k
  rw [ln_at]
  unfold cnv
  cases k with
  | zero =>
    show 0 + P 0 * q2 x (0 - 0) = 1 * sh P 0 + -x * P 0
    rw [sh_0]
    show 0 + P 0 * (0 - x) = _
    grind
  | succ k =>
    rw [sh_succ]
    show cnvS P (q2 x) (k + 1) k + P k * q2 x (k + 1 - k) + P (k + 1) * q2 x (k + 1 - (k + 1)) = _
    rw [cnv_low k (fun i hi => q2_out x (by omega)), show k + 1 - k = 1 by omega, show k + 1 - (k + 1) = 0 by omega]
    show 0 + P k * 1 + P (k + 1) * (0 - x) = _
    grind
theorem cnv_q3 (P : Po) (x y : Rat) : cnv P (q3 x y) = qd x y P := by
  funext k
  rw [qd_at]
  unfold cnv
  match k with
  | 0 =>
    show 0 + P 0 * q3 x y (0 - 0) = _
    rw [sh_0, sh_0]
    show 0 + P 0 * (x * x + y * y) = _
    grind
  | 1 =>
    show 0 + P 0 * q3 x y (1 - 0) + P 1 * q3 x y (1 - 1) = _
    rw [sh_succ, sh_succ, sh_0]
    show 0 + P 0 * (-2 * x) + P 1 * (x * x + y * y) = _
    grind
  | k + 2 =>
    rw [sh_succ, sh_succ, sh_succ]
    show cnvS P (q3 x y) (k + 2) k + P k * q3 x y (k + 2 - k) + P (k + 1) * q3 x y (k + 2 - (k + 1)) + P (k + 2) * q3 x y (k + 2 - (k + 2)) = _
    rw [cnv_low k (fun i hi => q3_out x y (by omega)), show k + 2 - k = 2 by omega, show k + 2 - (k + 1) = 1 by omega, show k + 2 - (k + 2) = 0 by omega]
    show 0 + P k * 1 + P (k + 1) * (-2 * x) + P (k + 2) * (x * x + y * y) = _
    grind
theorem den_mul (q : Rat) : q * ((q.den : Int) : Rat) = (q.num : Rat) := den_mul_self q
theorem fit_num {K : Nat} {q : Rat} (h : FitW K q) : q.num.natAbs < 4294967296 ^ K := h.1
theorem fit_den {K : Nat} {q : Rat} (h : FitW K q) : ((q.den : Int)).natAbs < 4294967296 ^ K := by
  rw [Int.natAbs_natCast]
  exact h.2
theorem den_ne (q : Rat) : (q.den : Int) ≠ 0 := by
  have := q.den_pos
  omega
theorem rep_sh {P : Po} {e : Int} {A : Nat} (h : ∀ j, ∃ z : Int, z.natAbs < 4294967296 ^ A ∧ P j * (e : Rat) = (z : Rat)) (j : Nat) : ∃ z : Int, z.natAbs < 4294967296 ^ A ∧ sh P j * (e : Rat) = (z : Rat) := by
  cases j with
  | zero => exact ⟨0, Nat.pow_pos (by decide), by rw [sh_0, Rat.zero_mul]; rfl⟩
  | succ j => rw [sh_succ]; exact h j
theorem pow_up {a k : Nat} (h : a < 8 * 4294967296 ^ k) : a < 4294967296 ^ (k + 1) := by
  have : 8 * 4294967296 ^ k ≤ 4294967296 ^ k * 4294967296 := by
    rw [Nat.mul_comm]
    exact Nat.mul_le_mul_left _ (by decide)
  rw [Nat.pow_succ]
  omega
theorem rep_lin {P : Po} {A k : Nat} {x : Rat} (h : Rep P A) (hx : FitW k x) : Rep (ln 1 (-x) P) (A + k + 1) := by
  obtain ⟨e, e0, he, hz⟩ := h
  have hd := den_mul x
  have b1 := mul_lt_pow he (fit_den hx)
  refine ⟨e * (x.den : Int), Int.mul_ne_zero e0 (den_ne x), pow_up (by omega), fun j => ?_⟩
  obtain ⟨z0, h0, q0⟩ := hz j
  obtain ⟨z1, h1, q1⟩ := rep_sh hz j
  have c1 := mul_lt_pow h1 (fit_den hx)
  have c2 := mul_lt_pow h0 (fit_num hx)
  refine ⟨z1 * (x.den : Int) - z0 * x.num, pow_up (by omega), ?_⟩
  rw [ln_at, Rat.intCast_mul, Rat.intCast_sub, Rat.intCast_mul, Rat.intCast_mul, ← q0, ← q1, ← hd]
  grind
theorem rep_quad {P : Po} {A k l : Nat} {x y : Rat} (h : Rep P A) (hx : FitW k x) (hy : FitW l y) : Rep (qd x y P) (A + (k + k + (l + l)) + 1) := by
  obtain ⟨e, e0, he, hz⟩ := h
  have hd := den_mul x
  have hf := den_mul y
  have bx := fit_den hx
  have bn := fit_num hx
  have by' := fit_den hy
  have bm := fit_num hy
  have bb : ((x.den : Int) * x.den * ((y.den : Int) * y.den)).natAbs < 4294967296 ^ (k + k + (l + l)) := mul_lt_pow (mul_lt_pow bx bx) (mul_lt_pow by' by')
  have b1 := mul_lt_pow he bb
  refine ⟨e * ((x.den : Int) * x.den * ((y.den : Int) * y.den)), Int.mul_ne_zero e0 (Int.mul_ne_zero (Int.mul_ne_zero (den_ne x) (den_ne x)) (Int.mul_ne_zero (den_ne y) (den_ne y))), pow_up (by omega), fun j => ?_⟩
  obtain ⟨z0, h0, r0⟩ := hz j
  obtain ⟨z1, h1, r1⟩ := rep_sh hz j
  obtain ⟨z2, h2, r2⟩ := rep_sh (rep_sh hz) j
  have c2 := mul_lt_pow h2 bb
  have c1 := mul_lt_pow h1 (show (x.num * x.den * ((y.den : Int) * y.den)).natAbs < 4294967296 ^ (k + k + (l + l)) from mul_lt_pow (mul_lt_pow bn bx) (mul_lt_pow by' by'))
  have c0 := mul_lt_pow h0 (show (x.num * x.num * ((y.den : Int) * y.den)).natAbs < 4294967296 ^ (k + k + (l + l)) from mul_lt_pow (mul_lt_pow bn bn) (mul_lt_pow by' by'))
  have d0 := mul_lt_pow h0 (show ((x.den : Int) * x.den * (y.num * y.num)).natAbs < 4294967296 ^ (k + k + (l + l)) from mul_lt_pow (mul_lt_pow bx bx) (mul_lt_pow bm bm))
  refine ⟨z2 * ((x.den : Int) * x.den * ((y.den : Int) * y.den)) - 2 * (z1 * (x.num * x.den * ((y.den : Int) * y.den))) + (z0 * (x.num * x.num * ((y.den : Int) * y.den)) + z0 * ((x.den : Int) * x.den * (y.num * y.num))), pow_up (by omega), ?_⟩
  rw [qd_at]
  simp only [Rat.intCast_mul, Rat.intCast_sub, Rat.intCast_add]
  rw [← r0, ← r1, ← r2, ← hd, ← hf]
  have : ((2 : Int) : Rat) = 2 := rfl
  rw [this]
  grind
theorem rep_start {k : Nat} {c : Rat} (h : FitW k c) : Rep (sm c on) k := by
  refine ⟨(c.den : Int), den_ne c, fit_den h, fun j => ?_⟩
  by_cases hj : j = 0
  · refine ⟨c.num, fit_num h, ?_⟩
    rw [hj]
    show c * on 0 * _ = _
    rw [← den_mul c]
    unfold on
    simp
  · refine ⟨0, Nat.pow_pos (by decide), ?_⟩
    show c * on j * _ = _
    unfold on
    rw [if_neg hj, Rat.mul_zero, Rat.zero_mul]
    rfl
theorem rep_half {P : Po} {A : Nat} (h : Rep P A) (n o : Nat) : Rep (halfP P n o) A := by
  obtain ⟨e, e0, he, hz⟩ := h
  refine ⟨e, e0, he, fun j => ?_⟩
  obtain ⟨z, h1, h2⟩ := hz j
  unfold halfP
  split
  · split
    · exact ⟨-z, by rw [Int.natAbs_neg]; exact h1, by rw [Rat.neg_mul, h2, Rat.intCast_neg]⟩
    · exact ⟨z, h1, h2⟩
  · exact ⟨0, Nat.pow_pos (by decide), by rw [Rat.zero_mul]; rfl⟩
theorem den_dvd {q : Rat} {e z : Int} (h : q * (e : Rat) = (z : Rat)) : q.den ∣ e.natAbs := by
  have h3 := den_mul_self q
  have h4 : q.num * e = z * (q.den : Int) := by
    have : ((q.num * e : Int) : Rat) = ((z * (q.den : Int) : Int) : Rat) := by
      rw [Rat.intCast_mul, Rat.intCast_mul, ← h3, ← h]
      have : (((q.den : Nat) : Int) : Rat) = ((q.den : Nat) : Rat) := rfl
      rw [this]
      grind
    exact Rat.intCast_inj.1 this
  have : q.den ∣ q.num.natAbs * e.natAbs := by
    rw [← Int.natAbs_mul, h4, Int.natAbs_mul]
    exact Nat.dvd_mul_left _ _
  exact Nat.Coprime.dvd_of_dvd_mul_left (Nat.Coprime.symm q.reduced) this
theorem shr_dvd_e {h : Po} {e : Int} (hz : ∀ j, ∃ z : Int, h j * (e : Rat) = (z : Rat)) : ∀ n, (shr h n).den ∣ e.natAbs
  | 0 => by
    show (0 : Rat).den ∣ _
    exact Nat.one_dvd _
  | n + 1 => by
    obtain ⟨z, e1⟩ := hz n
    show (cmnQ (shr h n) (h n)).den ∣ _
    rw [(cmn_parts _ _).2.1]
    exact Nat.lcm_dvd (shr_dvd_e hz n) (den_dvd e1)
theorem shr_rep {h : Po} {A : Nat} (hr : Rep h A) (n : Nat) : FitW A (shr h n) := by
  have hf := hr.fit
  obtain ⟨e, e0, he, hz⟩ := hr
  refine ⟨shr_num (fun i => (hf i).1) n, ?_⟩
  have h1 := shr_dvd_e (fun j => by obtain ⟨z, _, h2⟩ := hz j; exact ⟨z, h2⟩) n
  have h2 := Nat.le_of_dvd (by omega) h1
  omega
theorem plain_rep {h : Po} {A m : Nat} (hr : Rep h A) (hp : PL h m) : Whl (plainP h m) A := by
  have hf := hr.fit
  obtain ⟨e, e0, he, hz⟩ := hr
  intro i
  rcases Nat.lt_or_ge i m with hi | hi
  · have hs0 : shr h m ≠ 0 := shr_ne (i := m - 1) (by omega) (hp.2 (by omega))
    obtain ⟨h1, h2⟩ := plain_whole hi hs0
    refine ⟨h1, ?_⟩
    obtain ⟨z, hz1, hz2⟩ := hz i
    have hd := shr_dvd_e (fun j => by obtain ⟨z, _, h2⟩ := hz j; exact ⟨z, h2⟩) m
    obtain ⟨t, ht⟩ := hd
    -- e times what is shared is whole
    have hw := whole_eq h1
    have key : (plainP h m i).num * ((shr h m).num * (if 0 ≤ e then (t : Int) else -(t : Int))) = z := by
      have e1 : (e : Rat) = ((shr h m).den : Rat) * ((if 0 ≤ e then (t : Int) else -(t : Int) : Int) : Rat) := by
        have : e = ((shr h m).den : Int) * (if 0 ≤ e then (t : Int) else -(t : Int)) := by
          have h5 : ((e.natAbs : Nat) : Int) = ((shr h m).den : Int) * (t : Int) := by rw [ht]; exact Int.natCast_mul _ _
          by_cases hp : 0 ≤ e
          · rw [if_pos hp, ← h5]; omega
          · rw [if_neg hp, Int.mul_neg, ← h5]; omega
        have h6 := congrArg (fun k : Int => (k : Rat)) this
        simp only [Rat.intCast_mul] at h6
        exact h6
      have e2 : plainP h m i * shr h m = h i := by
        unfold plainP
        exact Rat.div_mul_cancel hs0
      have e3 := den_mul_self (shr h m)
      have e4 : (((plainP h m i).num * ((shr h m).num * (if 0 ≤ e then (t : Int) else -(t : Int))) : Int) : Rat) = ((z : Int) : Rat) := by
        rw [Rat.intCast_mul, Rat.intCast_mul, ← hw, ← hz2, ← e2, e1, ← e3]
        grind
      exact Rat.intCast_inj.1 e4
    have h3 := congrArg Int.natAbs key
    rw [Int.natAbs_mul] at h3
    have hb : 0 < ((shr h m).num * (if 0 ≤ e then (t : Int) else -(t : Int))).natAbs := by
      rcases Nat.eq_zero_or_pos ((shr h m).num * (if 0 ≤ e then (t : Int) else -(t : Int))).natAbs with k | k
      · exfalso
        rcases Int.mul_eq_zero.1 (Int.natAbs_eq_zero.1 k) with k | k
        · exact hs0 (Rat.num_eq_zero.1 k)
        · have : t = 0 := by split at k <;> omega
          rw [this, Nat.mul_zero] at ht
          omega
      · exact k
    have h4 : (plainP h m i).num.natAbs * 1 ≤ (plainP h m i).num.natAbs * ((shr h m).num * (if 0 ≤ e then (t : Int) else -(t : Int))).natAbs := Nat.mul_le_mul_left _ hb
    show (plainP h m i).num.natAbs < _
    omega
  · have e1 : plainP h m i = 0 := by
      unfold plainP
      rw [hp.1 i hi, Rat.div_def, Rat.zero_mul]
    rw [e1]
    exact whl_zero
end Go.Proofs.YtklkpkkjakllfaaGreatDoor.K
namespace Go.Proofs.YtklkpkkjakllfaaGreatDoor
open Go.RowKit
theorem fit_grow {L L' : Nat} {q : Rat} (h : FitW L q) (hl : L ≤ L') : FitW L' q :=
  ⟨Nat.lt_of_lt_of_le h.1 (Nat.pow_le_pow_right (by decide) hl), Nat.lt_of_lt_of_le h.2 (Nat.pow_le_pow_right (by decide) hl)⟩
theorem count_rep (v : Value) (ls : List ByteArray) (A L : Nat) (w : World) (hl : RowG sv w v ls) (hml : MLen w) (hs : ∀ i (h : i < ls.length), (ls[i]).size ≤ 600000000 ∧ (ls[i]).size + 1 ≤ L) (hrep : Rep (polyQ ls) A) (hA : 1 ≤ A) (hL : L ≤ 1000000000000) (hV : vB A 1 ≤ L) :
    Calls Tryz.prog 13 #[v] w fun e w' => CntE w ls e w' := by
  have HL := hide hl
  have HS := hide hs
  have HR0 := hide hrep
  have HM := hide hml
  have HV := hide hV
  have hL1 : 1 ≤ L := Nat.le_trans (Nat.le_trans (by decide) (vB_pos A 1)) hV
  have hL2 : A + 3 ≤ L := Nat.le_trans (vB_self A 1) hV
  obtain ⟨ao, cap, rfl, hc, hm, _⟩ := hl
  clear hs hml hV hrep
  go_enter Tryz.func13, Tryz.ntmps13
  go_wp2_with fail
  refine (read_at _ ls L w HL.out (fun _ i hi => HS.out i hi) HM.out).mono ?_
  rintro e w1 ⟨g1, hcase⟩
  have G1 := hide g1
  clear g1
  rcases hcase with ⟨hbig, rfl⟩ | ⟨hsm, hz, rfl⟩ | ⟨hsm, v1, n, hn0, hn13, hp, hr, rfl⟩
  · go_wp2
    refine bodyPost_ret (v := .tuple #[.int .i64 0, .int .i64 0, .int .i64 0, .int .i64 2]) (by simp [results, Tryz.results13, go_sem]) rfl ?_
    exact ⟨G1.out, 0, 0, 0, 2, rfl, .inl ⟨hbig, rfl⟩⟩
  · have HZ := hide hz
    clear hz
    go_wp2
    refine bodyPost_ret (v := .tuple #[.int .i64 0, .int .i64 0, .int .i64 0, .int .i64 9]) (by simp [results, Tryz.results13, go_sem]) rfl ?_
    exact ⟨G1.out, 0, 0, 0, 9, rfl, .inr (.inl ⟨hsm, HZ.out, rfl⟩)⟩
  · have HP := hide hp
    have HR := hide hr
    have HSM := hide hsm
    obtain ⟨o1, c1, rfl, _, hm1, _⟩ := hr
    unfold maxLen at hm1
    clear hp hsm HL HS HM
    have P0 := hide (PL_half0 HP.out hn0)
    have RH : Hid (∀ odd, Rep (halfP (polyQ ls) n odd) A) := fun odd => K.rep_half HR0.out n odd
    go_wp2_with fail
    refine (along_at _ n (polyQ ls) L w1 HR.out (by omega)).mono ?_
    rintro e w2 ⟨v2, v3, m1, m2, rfl, q1, q2, q3, q4, q5⟩
    have em : n = m1 := PL_uniq P0.out q2
    subst em
    have hm2 := half1_len hn0 q4
    have R1 := hide q1
    have R2 := hide q3
    have P1 := hide q4
    have G2 := hide (gr_none G1.out q5)
    obtain ⟨o2, c2, rfl, _, _, _⟩ := q1
    obtain ⟨o3, c3, rfl, _, _, _⟩ := q3
    clear q2 q4 q5
    go_wp2_with fail
    refine (jumps_at _ _ n m2 (halfP (polyQ ls) n 0) (halfP (polyQ ls) n 1) A A A L w2 R1.out R2.out P0.out P1.out hm2 hn13 hL HV.out (fun i hi => fit_grow (K.shr_rep (RH.out 0) i) (by omega)) (fun i _ => (K.plain_rep (RH.out 0) P0.out).fit (by omega) hL1 i)
      (fun i hi => fit_grow (K.shr_rep (RH.out 1) i) (by omega)) (fun i _ => (K.plain_rep (RH.out 1) P1.out).fit (by omega) hL1 i) (K.plain_rep (RH.out 0) P0.out) (vB_self _ _) (K.plain_rep (RH.out 1) P1.out) (by have := vB_self A n; omega)).mono ?_
    rintro e w3 ⟨u, v4, s, d, ms, rfl, q1, q2, q3, q4, q5, q6, q7, q8, q9, q10, q11⟩
    have R3 := hide q1
    have P3 := hide q2
    have W3 := hide q6
    have M3 := hide q7
    have J3 := hide q10
    have G3 := hide (gr_none G2.out q11)
    obtain ⟨o4, c4, rfl, _, _, _⟩ := q1
    clear q2 q5 q6 q7 q10 q11
    go_wp2_with fail
    refine (rroots_at _ d s ms A L w3 R3.out P3.out q3 (by omega) hL HV.out W3.out M3.out).mono ?_
    rintro e w4 ⟨r, rfl, k1, k2, k3, k4⟩
    have K1 := hide k1
    have G4 := hide (gr_none G3.out k4)
    clear k1 k4
    have t1 := tdiv_small (x := (n : Int) - 1 - r + u) (by omega) (by omega)
    have t2 := tdiv_small (x := (n : Int) - 1 - r - u) (by omega) (by omega)
    go_wp2
    refine bodyPost_ret (v := .tuple #[.int .i64 (((n : Int) - 1 - r + u).tdiv 2), .int .i64 r, .int .i64 (((n : Int) - 1 - r - u).tdiv 2), .int .i64 0]) (by simp [results, Tryz.results13, go_sem]) rfl ?_
    obtain ⟨k, hk, e1⟩ := plain_scale P0.out
    obtain ⟨l, hl, e2⟩ := plain_scale P1.out
    have hj := J3.out
    rw [e1, e2] at hj
    exact ⟨G4.out, _, _, _, _, rfl, .inr (.inr ⟨HSM.out, n, hn0, hn13, HP.out, rfl, m2, u, r, s, d, k, l, P1.out, hk, hl, hj, K1.out, rfl, rfl, rfl⟩)⟩
end Go.Proofs.YtklkpkkjakllfaaGreatDoor
