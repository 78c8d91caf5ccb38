/- Polynomials: what is left over, Sturm's way, and Routh's rows. -/
import Derived.Test.YtklkpkkjakllfaaGreatDoorXPa
import Derived.Test.YtklkpkkjakllfaaGreatDoorXFComm
set_option linter.unusedVariables false
set_option linter.unusedSimpArgs false
set_option maxHeartbeats 4000000
set_option maxRecDepth 10000
namespace Go.Proofs.YtklkpkkjakllfaaGreatDoor
def byQ (x y : Nat → Rat) (a b : Nat) : Rat := if y (b - 1) < 0 then -x (a - 1) else x (a - 1)
def stepP (x : Nat → Rat) (a : Nat) (y : Nat → Rat) (b : Nat) : Nat → Rat := fun i => qabs (y (b - 1)) * x i - (if a - b ≤ i then byQ x y a b * y (i - (a - b)) else 0)
theorem qneg_iff {q : Rat} : q.num < 0 ↔ q < 0 := by
  rw [← Int.not_le, Rat.num_nonneg, Rat.not_le]
theorem qpos_iff {q : Rat} : 0 < q.num ↔ 0 < q := by
  constructor
  · intro h
    exact Rat.lt_of_le_of_ne (Rat.num_nonneg.1 (Int.le_of_lt h)) (fun e => by rw [← e] at h; simp at h)
  · intro h
    rcases Int.lt_trichotomy q.num 0 with h2 | h2 | h2
    · exact absurd (qneg_iff.1 h2) (by grind)
    · have := Rat.num_eq_zero.1 h2
      grind
    · exact h2
theorem rB_lt (q : Rat) : rB q = decide (q < 0) := by
  unfold rB
  rw [decide_eq_decide]
  exact qneg_iff
theorem qabs_eq (q : Rat) : qabs q = if q < 0 then -q else q := by
  unfold qabs
  rw [rB_lt]
  simp
theorem step_top {x y : Nat → Rat} {a b : Nat} (hx : PL x a) (hy : PL y b) (hb : 0 < b) (hab : b ≤ a) : ∀ i, a - 1 ≤ i → stepP x a y b i = 0 := by
  intro i hi
  unfold stepP byQ
  rw [if_pos (by omega), qabs_eq]
  by_cases e : i = a - 1
  · rw [e, show a - 1 - (a - b) = b - 1 by omega]
    split <;> grind
  · rw [hx.1 i (by omega), hy.1 (i - (a - b)) (by omega)]
    grind
def LftF (y : Nat → Rat) (b : Nat) : Nat → (Nat → Rat) → Nat → (Nat → Rat) → Nat → Prop
  | 0, x, a, r, c => a < b ∧ r = x ∧ c = a
  | k + 1, x, a, r, c => (a < b ∧ r = x ∧ c = a) ∨ (b ≤ a ∧ ∃ a', PL (stepP x a y b) a' ∧ LftF y b k (stepP x a y b) a' r c)
def Lft (y : Nat → Rat) (b : Nat) (x : Nat → Rat) (a : Nat) (r : Nat → Rat) (c : Nat) : Prop := ∃ k, LftF y b k x a r c
theorem Lft.over0 {y : Nat → Rat} {b : Nat} (x : Nat → Rat) (a : Nat) (h : a < b) : Lft y b x a x a := ⟨0, h, rfl, rfl⟩
theorem Lft.more {y : Nat → Rat} {b : Nat} (x : Nat → Rat) (a a' : Nat) (r : Nat → Rat) (c : Nat) (h : b ≤ a) (hp : PL (stepP x a y b) a') (hl : Lft y b (stepP x a y b) a' r c) : Lft y b x a r c := by
  obtain ⟨k, hk⟩ := hl
  exact ⟨k + 1, .inr ⟨h, a', hp, hk⟩⟩
theorem Lft.parted {y : Nat → Rat} {b : Nat} {x : Nat → Rat} {a : Nat} {r : Nat → Rat} {c : Nat} (h : Lft y b x a r c) : (a < b ∧ r = x ∧ c = a) ∨ (b ≤ a ∧ ∃ a', PL (stepP x a y b) a' ∧ Lft y b (stepP x a y b) a' r c) := by
  obtain ⟨k, hk⟩ := h
  match k, hk with
  | 0, h => exact .inl h
  | k + 1, .inl h => exact .inl h
  | k + 1, .inr ⟨h1, a', h2, h3⟩ => exact .inr ⟨h1, a', h2, k, h3⟩
def sgn1 (q : Rat) : Int := q.num.sign
def jmp1 (x y : Nat → Rat) (a b : Nat) : Int := if (a - b) % 2 = 0 then 0 else sgn1 (x (a - 1)) * sgn1 (y (b - 1))
def JmpF : Nat → (Nat → Rat) → Nat → (Nat → Rat) → Nat → Int → (Nat → Rat) → Nat → Prop
  | 0, x, a, y, b, u, s, d => b = 0 ∧ u = 0 ∧ s = x ∧ d = a
  | n + 1, x, a, y, b, u, s, d => (b = 0 ∧ u = 0 ∧ s = x ∧ d = a) ∨ (0 < b ∧ ∃ (r : Nat → Rat) (c : Nat) (k : Rat) (u' : Int), Lft y b x a r c ∧ 0 < k ∧ u = jmp1 x y a b + u' ∧ JmpF n y b (fun i => k * -r i) c u' s d)
def Jmp (x : Nat → Rat) (a : Nat) (y : Nat → Rat) (b : Nat) (u : Int) (s : Nat → Rat) (d : Nat) : Prop := ∃ n, JmpF n x a y b u s d
theorem Jmp.over0 (x : Nat → Rat) (a : Nat) (y : Nat → Rat) : Jmp x a y 0 0 x a := ⟨0, rfl, rfl, rfl, rfl⟩
theorem Jmp.more (x : Nat → Rat) (a : Nat) (y : Nat → Rat) (b : Nat) (r : Nat → Rat) (c : Nat) (k : Rat) (u : Int) (s : Nat → Rat) (d : Nat) (hb : 0 < b) (hl : Lft y b x a r c) (hk : 0 < k) (hj : Jmp y b (fun i => k * -r i) c u s d) : Jmp x a y b (jmp1 x y a b + u) s d := by
  obtain ⟨n, hn⟩ := hj
  exact ⟨n + 1, .inr ⟨hb, r, c, k, u, hl, hk, rfl, hn⟩⟩
theorem Jmp.parted {x : Nat → Rat} {a : Nat} {y : Nat → Rat} {b : Nat} {u : Int} {s : Nat → Rat} {d : Nat} (h : Jmp x a y b u s d) :
    (b = 0 ∧ u = 0 ∧ s = x ∧ d = a) ∨ (0 < b ∧ ∃ (r : Nat → Rat) (c : Nat) (k : Rat) (u' : Int), Lft y b x a r c ∧ 0 < k ∧ u = jmp1 x y a b + u' ∧ Jmp y b (fun i => k * -r i) c u' s d) := by
  obtain ⟨n, hn⟩ := h
  match n, hn with
  | 0, h => exact .inl h
  | n + 1, .inl h => exact .inl h
  | n + 1, .inr ⟨h1, r, c, k, u', h2, h3, h4, h5⟩ => exact .inr ⟨h1, r, c, k, u', h2, h3, h4, n, h5⟩
theorem sgn1_mul {k q : Rat} (hk : 0 < k) : sgn1 (k * q) = sgn1 q := by
  unfold sgn1
  rcases Int.lt_trichotomy q.num 0 with h | h | h
  · have h1 : q < 0 := qneg_iff.1 h
    have h2 : k * q < 0 := by
      have := Rat.mul_lt_mul_of_pos_left h1 hk
      rwa [Rat.mul_zero] at this
    rw [Int.sign_eq_neg_one_of_neg h, Int.sign_eq_neg_one_of_neg (qneg_iff.2 h2)]
  · have h1 : q = 0 := Rat.num_eq_zero.1 h
    rw [h1, Rat.mul_zero]
  · have h1 : 0 < q := qpos_iff.1 h
    have h2 : 0 < k * q := Rat.mul_pos hk h1
    rw [Int.sign_eq_one_of_pos h, Int.sign_eq_one_of_pos (qpos_iff.2 h2)]
def rowN (a b : Nat → Rat) : Nat → Rat := fun j => a (j + 1) - a 0 / b 0 * b (j + 1)
def alt (j : Nat) : Rat := if j % 2 = 0 then 1 else -1
def rowP (r : Nat → Rat) (d : Nat) : Nat → Rat := fun i => if i ≤ d ∧ (d - i) % 2 = 0 then alt ((d - i) / 2) * r ((d - i) / 2) else 0
theorem alt_succ (j : Nat) : alt (j + 1) = -alt j := by
  unfold alt
  by_cases h : j % 2 = 0
  · rw [if_pos h, if_neg (by omega)]
  · rw [if_neg h, if_pos (by omega)]
    rfl
theorem rowP_top (r : Nat → Rat) (d : Nat) : rowP r d d = r 0 := by
  unfold rowP
  rw [if_pos (by omega), Nat.sub_self]
  show alt 0 * r 0 = r 0
  unfold alt
  rw [if_pos rfl, Rat.one_mul]
theorem PL_rowP {r : Nat → Rat} {d : Nat} (h : r 0 ≠ 0) (k : Rat) (hk : 0 < k) : PL (fun i => k * rowP r d i) (d + 1) := by
  refine ⟨fun i hi => ?_, fun _ => ?_⟩
  · show k * rowP r d i = 0
    unfold rowP
    rw [if_neg (by omega), Rat.mul_zero]
  · show k * rowP r d d ≠ 0
    rw [rowP_top]
    intro e
    rcases Rat.mul_eq_zero.1 e with e | e
    · grind
    · exact h e
theorem rowP_odd {r : Nat → Rat} {d i : Nat} (h : (d - i) % 2 = 1) : rowP r d i = 0 := by
  unfold rowP
  rw [if_neg (by omega)]
theorem rowP_out {r : Nat → Rat} {d i : Nat} (h : d < i) : rowP r d i = 0 := by
  unfold rowP
  rw [if_neg (by omega)]
theorem rowP_at {r : Nat → Rat} {d i j : Nat} (h : d = i + 2 * j) : rowP r d i = alt j * r j := by
  unfold rowP
  rw [if_pos (by omega), show (d - i) / 2 = j by omega]
theorem qabs_pos {q : Rat} (h : q ≠ 0) : 0 < qabs q := by
  rw [qabs_eq]
  split <;> grind
theorem neg_mul_iff {l q : Rat} (hl : 0 < l) : l * q < 0 ↔ q < 0 := by
  constructor
  · intro h
    rcases Classical.em (q < 0) with h2 | h2
    · exact h2
    · exact absurd h (Rat.not_lt.2 (Rat.mul_nonneg (Rat.le_of_lt hl) (Rat.not_lt.1 h2)))
  · intro h
    have := Rat.mul_lt_mul_of_pos_left h hl
    rwa [Rat.mul_zero] at this
theorem qabs_mul {l q : Rat} (hl : 0 < l) : qabs (l * q) = l * qabs q := by
  rw [qabs_eq, qabs_eq]
  by_cases h : q < 0
  · rw [if_pos h, if_pos ((neg_mul_iff hl).2 h)]
    grind
  · rw [if_neg h, if_neg (fun e => h ((neg_mul_iff hl).1 e))]
theorem by_rows {a0 b0 k l : Rat} (hb : b0 ≠ 0) (hl : 0 < l) : (if l * b0 < 0 then -(k * a0) else k * a0) = k * (a0 / b0) * qabs b0 := by
  have h1 : a0 / b0 * b0 = a0 := Rat.div_mul_cancel hb
  rw [qabs_eq]
  by_cases h : b0 < 0
  · rw [if_pos h, if_pos ((neg_mul_iff hl).2 h)]
    grind
  · rw [if_neg h, if_neg (fun e => h ((neg_mul_iff hl).1 e))]
    grind
theorem step_rows {a b : Nat → Rat} {d : Nat} {k l : Rat} (hb : b 0 ≠ 0) (hbz : ∀ j, d < 2 * j → b j = 0) (hk : 0 < k) (hl : 0 < l) :
    ∃ m : Rat, 0 < m ∧ ∀ i, stepP (fun i => k * rowP a (d + 1) i) (d + 2) (fun i => l * rowP b d i) (d + 1) i = m * -(if i + 1 ≤ d then rowP (rowN a b) (d - 1) i else 0) := by
  refine ⟨k * l * qabs (b 0), Rat.mul_pos (Rat.mul_pos hk hl) (qabs_pos hb), fun i => ?_⟩
  have h1 : a 0 / b 0 * b 0 = a 0 := Rat.div_mul_cancel hb
  unfold stepP byQ
  rw [show d + 2 - (d + 1) = 1 by omega, show d + 1 - 1 = d by omega, show d + 2 - 1 = d + 1 by omega]
  simp only [rowP_top]
  rw [qabs_mul hl, by_rows hb hl]
  generalize qabs (b 0) = B
  by_cases g1 : d + 1 < i
  · rw [rowP_out g1, if_pos (by omega), rowP_out (d := d) (by omega), if_neg (by omega)]
    grind
  · by_cases g2 : i = d + 1
    · subst g2
      rw [rowP_top, if_pos (by omega), show d + 1 - 1 = d by omega, rowP_top, if_neg (by omega)]
      grind
    · by_cases g3 : (d + 1 - i) % 2 = 1
      · rw [rowP_odd g3]
        have e1 : (if 1 ≤ i then k * (a 0 / b 0) * B * (l * rowP b d (i - 1)) else 0) = 0 := by
          by_cases hi : 1 ≤ i
          · rw [if_pos hi, rowP_odd (d := d) (i := i - 1) (by omega)]
            grind
          · rw [if_neg hi]
        have e2 : (if i + 1 ≤ d then rowP (rowN a b) (d - 1) i else 0) = 0 := by
          by_cases hi : i + 1 ≤ d
          · rw [if_pos hi, rowP_odd (d := d - 1) (i := i) (by omega)]
          · rw [if_neg hi]
        rw [e1, e2]
        grind
      · obtain ⟨t, ht⟩ : ∃ t, d + 1 = i + 2 * (t + 1) := ⟨(d + 1 - i) / 2 - 1, by omega⟩
        rw [rowP_at ht, if_pos (show i + 1 ≤ d by omega), rowP_at (d := d - 1) (i := i) (j := t) (by omega), alt_succ]
        unfold rowN
        by_cases hi : 1 ≤ i
        · rw [if_pos hi, rowP_at (d := d) (i := i - 1) (j := t + 1) (by omega), alt_succ]
          grind
        · rw [if_neg hi, hbz (t + 1) (by omega)]
          grind
def rowK (a b : Nat → Rat) : Nat → Nat → Rat
  | 0 => a
  | 1 => b
  | n + 2 => rowN (rowK a b n) (rowK a b (n + 1))
theorem rowK_shift (a b : Nat → Rat) : ∀ n, rowK b (rowN a b) n = rowK a b (n + 1)
  | 0 => rfl
  | 1 => rfl
  | n + 2 => by
    show rowN (rowK b (rowN a b) n) (rowK b (rowN a b) (n + 1)) = rowN (rowK a b (n + 1)) (rowK a b (n + 2))
    rw [rowK_shift a b n, rowK_shift a b (n + 1)]
def upU (a b : Nat → Rat) : Nat → Int
  | 0 => 0
  | n + 1 => upU a b n + sgn1 (rowK a b n 0) * sgn1 (rowK a b (n + 1) 0)
theorem upS_shift (a b : Nat → Rat) : ∀ n, upU a b (n + 1) = sgn1 (a 0) * sgn1 (b 0) + upU b (rowN a b) n
  | 0 => by
    show (0 : Int) + sgn1 (rowK a b 0 0) * sgn1 (rowK a b 1 0) = _ + 0
    show (0 : Int) + sgn1 (a 0) * sgn1 (b 0) = _ + 0
    omega
  | n + 1 => by
    have ih := upS_shift a b n
    show upU a b (n + 1) + sgn1 (rowK a b (n + 1) 0) * sgn1 (rowK a b (n + 2) 0) = sgn1 (a 0) * sgn1 (b 0) + (upU b (rowN a b) n + sgn1 (rowK b (rowN a b) n 0) * sgn1 (rowK b (rowN a b) (n + 1) 0))
    rw [ih, rowK_shift, rowK_shift]
    exact Int.add_assoc _ _ _
theorem rowN_zero {a b : Nat → Rat} {d : Nat} (ha : ∀ j, d + 1 < 2 * j → a j = 0) (hb : ∀ j, d < 2 * j → b j = 0) (j : Nat) (h : d < 2 * j + 1) : rowN a b j = 0 := by
  unfold rowN
  rw [ha (j + 1) (by omega), hb (j + 1) (by omega)]
  grind
theorem jmp1_rows {a b : Nat → Rat} {d : Nat} {k l : Rat} (hk : 0 < k) (hl : 0 < l) : jmp1 (fun i => k * rowP a (d + 1) i) (fun i => l * rowP b d i) (d + 2) (d + 1) = sgn1 (a 0) * sgn1 (b 0) := by
  unfold jmp1
  rw [if_neg (by omega), show d + 2 - 1 = d + 1 by omega, show d + 1 - 1 = d by omega]
  simp only [rowP_top]
  rw [sgn1_mul hk, sgn1_mul hl]
theorem jmp_rows : ∀ (d : Nat) (a b : Nat → Rat) (k l : Rat) (u : Int) (s : Nat → Rat) (c : Nat), 0 < k → 0 < l → (∀ j, d + 1 < 2 * j → a j = 0) → (∀ j, d < 2 * j → b j = 0) →
    (∀ n, n ≤ d + 1 → rowK a b n 0 ≠ 0) → ∀ (y : Nat → Rat) (x : Nat → Rat), (∀ i, x i = k * rowP a (d + 1) i) → (∀ i, y i = l * rowP b d i) → Jmp x (d + 2) y (d + 1) u s c → u = upU a b (d + 1) ∧ c = 1 := by
  intro d
  induction d with
  | zero =>
    intro a b k l u s c hk hl ha hb hz y x hx hy hj
    obtain rfl : x = fun i => k * rowP a (0 + 1) i := funext hx
    obtain rfl : y = fun i => l * rowP b 0 i := funext hy
    obtain ⟨m, hm, hs⟩ := step_rows (a := a) (b := b) (d := 0) (hz 1 (by omega)) hb hk hl
    rcases hj.parted with ⟨h0, _⟩ | ⟨h0, r, c', kk, u', hL, hkk, rfl, hj'⟩
    · omega
    rw [jmp1_rows hk hl]
    rcases hL.parted with ⟨h, _⟩ | ⟨h1, a', h2, h3⟩
    · omega
    have hz0 : ∀ i, stepP (fun i => k * rowP a (0 + 1) i) (0 + 2) (fun i => l * rowP b 0 i) (0 + 1) i = 0 := by
      intro i
      rw [hs i, if_neg (by omega)]
      grind
    have ea : a' = 0 := PL_uniq h2 ⟨fun i _ => hz0 i, fun h => by omega⟩
    subst ea
    rcases h3.parted with ⟨h4, rfl, rfl⟩ | ⟨h4, _⟩
    · rcases hj'.parted with ⟨_, rfl, rfl, rfl⟩ | ⟨h5, _⟩
      · refine ⟨?_, rfl⟩
        rw [upS_shift]
        rfl
      · omega
    · omega
  | succ d ih =>
    intro a b k l u s c hk hl ha hb hz y x hx hy hj
    obtain rfl : x = fun i => k * rowP a (d + 1 + 1) i := funext hx
    obtain rfl : y = fun i => l * rowP b (d + 1) i := funext hy
    obtain ⟨m, hm, hs⟩ := step_rows (a := a) (b := b) (d := d + 1) (hz 1 (by omega)) hb hk hl
    have hs' : ∀ i, stepP (fun i => k * rowP a (d + 1 + 1) i) (d + 1 + 2) (fun i => l * rowP b (d + 1) i) (d + 1 + 1) i = m * -rowP (rowN a b) d i := by
      intro i
      rw [hs i]
      by_cases h : i + 1 ≤ d + 1
      · rw [if_pos h]; rfl
      · rw [if_neg h, rowP_out (by omega)]
    have h20 : rowN a b 0 ≠ 0 := hz 2 (by omega)
    rcases hj.parted with ⟨h0, _⟩ | ⟨h0, r, c', kk, u', hL, hkk, rfl, hj'⟩
    · omega
    rw [jmp1_rows hk hl]
    rcases hL.parted with ⟨h, _⟩ | ⟨h1, a', h2, h3⟩
    · omega
    have ea : a' = d + 1 := by
      refine PL_uniq h2 ⟨fun i hi => by rw [hs' i, rowP_out (by omega)]; grind, fun _ => ?_⟩
      rw [hs', show d + 1 - 1 = d by omega, rowP_top]
      intro e
      rcases Rat.mul_eq_zero.1 e with e | e
      · grind
      · exact h20 (by grind)
    subst ea
    rcases h3.parted with ⟨h4, rfl, rfl⟩ | ⟨h4, _⟩
    · obtain ⟨g1, g2⟩ := ih b (rowN a b) l (kk * m) u' s c hl (Rat.mul_pos hkk hm) hb (fun j hj => rowN_zero ha hb j (by omega)) (fun n hn => by rw [rowK_shift]; exact hz (n + 1) (by omega)) _ _ (fun _ => rfl) (fun i => by rw [hs' i]; grind) hj'
      refine ⟨?_, g2⟩
      rw [upS_shift, g1]
    · omega
theorem whole_eq {q : Rat} (h : q.den = 1) : q = (q.num : Rat) := by
  apply Rat.ext
  · simp
  · simp [h]
theorem whole_mul {x y : Rat} (hx : x.den = 1) (hy : y.den = 1) : (x * y).den = 1 ∧ rN (x * y) = rN x * rN y := by
  rw [whole_eq hx, whole_eq hy, ← Rat.intCast_mul]
  exact ⟨rfl, Int.natAbs_mul _ _⟩
theorem whole_sub {x y : Rat} (hx : x.den = 1) (hy : y.den = 1) : (x - y).den = 1 ∧ rN (x - y) ≤ rN x + rN y := by
  rw [whole_eq hx, whole_eq hy, ← Rat.intCast_sub]
  refine ⟨rfl, ?_⟩
  show (x.num - y.num).natAbs ≤ x.num.natAbs + y.num.natAbs
  omega
theorem whole_neg {x : Rat} (hx : x.den = 1) : (-x).den = 1 ∧ rN (-x) = rN x := ⟨hx, (oppB_q x).2.1⟩
theorem qabs_whole {x : Rat} (hx : x.den = 1) : (qabs x).den = 1 ∧ rN (qabs x) = rN x := ⟨(qabs_parts x).2.2.trans hx, (qabs_parts x).2.1⟩
def Whl (p : Nat → Rat) (m : Nat) : Prop := ∀ i, (p i).den = 1 ∧ rN (p i) < 4294967296 ^ m
theorem Whl.mono {p : Nat → Rat} {m m' : Nat} (h : Whl p m) (k : m ≤ m') : Whl p m' := fun i =>
  ⟨(h i).1, Nat.lt_of_lt_of_le (h i).2 (Nat.pow_le_pow_right (by decide) k)⟩
theorem one_lt_pow {L : Nat} (h : 1 ≤ L) : 1 < 4294967296 ^ L := by
  have := Nat.pow_le_pow_right (n := 4294967296) (by decide) h
  rw [Nat.pow_one] at this
  omega
theorem fit_whole {q : Rat} {L m : Nat} (h1 : q.den = 1) (h2 : rN q < 4294967296 ^ m) (hm : m ≤ L) (hL : 1 ≤ L) : FitW L q :=
  ⟨Nat.lt_of_lt_of_le h2 (Nat.pow_le_pow_right (by decide) hm), by rw [h1]; exact one_lt_pow hL⟩
theorem Whl.fit {p : Nat → Rat} {m L : Nat} (h : Whl p m) (hm : m ≤ L) (hL : 1 ≤ L) (i : Nat) : FitW L (p i) := fit_whole (h i).1 (h i).2 hm hL
theorem whl_zero {m : Nat} : (0 : Rat).den = 1 ∧ rN 0 < 4294967296 ^ m := ⟨rfl, Nat.pow_pos (by decide)⟩
theorem mul_bound {x y : Rat} {m k : Nat} (hx : x.den = 1 ∧ rN x < 4294967296 ^ m) (hy : y.den = 1 ∧ rN y < 4294967296 ^ k) : (x * y).den = 1 ∧ rN (x * y) < 4294967296 ^ (m + k) := by
  obtain ⟨h1, h2⟩ := whole_mul hx.1 hy.1
  refine ⟨h1, ?_⟩
  rw [h2, Nat.pow_add]
  exact Nat.mul_lt_mul'' hx.2 hy.2
theorem sub_bound {x y : Rat} {m : Nat} (hx : x.den = 1 ∧ rN x < 4294967296 ^ m) (hy : y.den = 1 ∧ rN y < 4294967296 ^ m) : (x - y).den = 1 ∧ rN (x - y) < 4294967296 ^ (m + 1) := by
  obtain ⟨h1, h2⟩ := whole_sub hx.1 hy.1
  refine ⟨h1, ?_⟩
  rw [Nat.pow_succ]
  have := hx.2
  have := hy.2
  omega
theorem byQ_bound {x y : Nat → Rat} {a b m : Nat} (hx : Whl x m) : (byQ x y a b).den = 1 ∧ rN (byQ x y a b) < 4294967296 ^ m := by
  unfold byQ
  split
  · obtain ⟨h1, h2⟩ := whole_neg (hx (a - 1)).1
    exact ⟨h1, by rw [h2]; exact (hx (a - 1)).2⟩
  · exact hx (a - 1)
theorem abs_bound {q : Rat} {m : Nat} (h : q.den = 1 ∧ rN q < 4294967296 ^ m) : (qabs q).den = 1 ∧ rN (qabs q) < 4294967296 ^ m := by
  obtain ⟨h1, h2⟩ := qabs_whole h.1
  exact ⟨h1, by rw [h2]; exact h.2⟩
theorem step_whl {x y : Nat → Rat} {a b m k : Nat} (hx : Whl x m) (hy : Whl y k) : Whl (stepP x a y b) (m + k + 1) := by
  intro i
  unfold stepP
  refine sub_bound ?_ ?_
  · rw [Nat.add_comm m k]
    exact mul_bound (abs_bound (hy (b - 1))) (hx i)
  · split
    · exact mul_bound (byQ_bound hx) (hy _)
    · exact whl_zero
theorem cmn_parts (x y : Rat) : rN (cmnQ x y) = Nat.gcd (rN x) (rN y) ∧ (cmnQ x y).den = Nat.lcm x.den y.den ∧ 0 ≤ cmnQ x y := by
  have hc : Nat.gcd (Nat.gcd (rN x) (rN y)) (Nat.lcm x.den y.den) = 1 := comm_cop x.reduced y.reduced
  have hp : 0 < Nat.lcm x.den y.den := Nat.lcm_pos x.den_pos y.den_pos
  have e1 : cmnQ x y = { num := (Nat.gcd (rN x) (rN y) : Nat), den := Nat.lcm x.den y.den, den_nz := by omega, reduced := hc } := by
    unfold cmnQ
    rw [← Rat.mkRat_self { num := (Nat.gcd (rN x) (rN y) : Nat), den := Nat.lcm x.den y.den, den_nz := by omega, reduced := hc }]
  refine ⟨?_, ?_, ?_⟩
  · rw [e1]; rfl
  · rw [e1]
  · rw [← Rat.num_nonneg, e1]
    exact Int.natCast_nonneg _
def shr (p : Nat → Rat) : Nat → Rat
  | 0 => 0
  | i + 1 => cmnQ (shr p i) (p i)
theorem shr_nonneg (p : Nat → Rat) (n : Nat) : 0 ≤ shr p n := by
  cases n with
  | zero => exact Rat.le_refl
  | succ n => exact (cmn_parts _ _).2.2
theorem shr_dvd (p : Nat → Rat) (n i : Nat) (h : i < n) : rN (shr p n) ∣ rN (p i) ∧ (p i).den ∣ (shr p n).den := by
  induction n with
  | zero => omega
  | succ n ih =>
    obtain ⟨h1, h2, _⟩ := cmn_parts (shr p n) (p n)
    show rN (cmnQ (shr p n) (p n)) ∣ _ ∧ _ ∣ (cmnQ (shr p n) (p n)).den
    rw [h1, h2]
    by_cases e : i = n
    · subst e
      exact ⟨Nat.gcd_dvd_right _ _, Nat.dvd_lcm_right _ _⟩
    · obtain ⟨g1, g2⟩ := ih (by omega)
      exact ⟨Nat.dvd_trans (Nat.gcd_dvd_left _ _) g1, Nat.dvd_trans g2 (Nat.dvd_lcm_left _ _)⟩
theorem shr_ne {p : Nat → Rat} {n i : Nat} (h : i < n) (h0 : p i ≠ 0) : shr p n ≠ 0 := by
  intro e
  have := (shr_dvd p n i h).1
  rw [e] at this
  have h1 : rN (p i) = 0 := Nat.eq_zero_of_zero_dvd this
  exact h0 (Rat.num_eq_zero.1 (by unfold rN at h1; omega))
theorem shr_pos {p : Nat → Rat} {n i : Nat} (h : i < n) (h0 : p i ≠ 0) : 0 < shr p n :=
  Rat.lt_of_le_of_ne (shr_nonneg p n) (fun e => shr_ne h h0 e.symm)
theorem shr_den {p : Nat → Rat} {m : Nat} (h : ∀ i, (p i).den < 4294967296 ^ m) : ∀ n, (shr p n).den ≤ 4294967296 ^ (n * m)
  | 0 => by simp [shr]
  | n + 1 => by
    obtain ⟨h1, h2, _⟩ := cmn_parts (shr p n) (p n)
    show (cmnQ (shr p n) (p n)).den ≤ _
    rw [h2]
    have := shr_den h n
    have h3 : Nat.lcm (shr p n).den (p n).den ≤ (shr p n).den * (p n).den := Nat.le_of_dvd (Nat.mul_pos (Rat.den_pos _) (Rat.den_pos _)) (Nat.lcm_dvd (Nat.dvd_mul_right _ _) (Nat.dvd_mul_left _ _))
    rw [Nat.succ_mul, Nat.pow_add]
    exact Nat.le_trans h3 (Nat.mul_le_mul this (Nat.le_of_lt (h n)))
theorem shr_num {p : Nat → Rat} {m : Nat} (h : ∀ i, rN (p i) < 4294967296 ^ m) : ∀ n, rN (shr p n) < 4294967296 ^ m
  | 0 => Nat.pow_pos (by decide)
  | n + 1 => by
    obtain ⟨h1, h2, _⟩ := cmn_parts (shr p n) (p n)
    show rN (cmnQ (shr p n) (p n)) < _
    rw [h1]
    have ih := shr_num h n
    by_cases e : rN (p n) = 0
    · rw [e, Nat.gcd_zero_right]; exact ih
    · exact Nat.lt_of_le_of_lt (Nat.gcd_le_right _ (by omega)) (h n)
theorem shr_whole {p : Nat → Rat} (h : ∀ i, (p i).den = 1) : ∀ n, (shr p n).den = 1
  | 0 => rfl
  | n + 1 => by
    obtain ⟨h1, h2, _⟩ := cmn_parts (shr p n) (p n)
    show (cmnQ (shr p n) (p n)).den = 1
    rw [h2, shr_whole h n, h n]
    rfl
def plainP (p : Nat → Rat) (n : Nat) : Nat → Rat := fun i => p i / shr p n
theorem den_mul_self (q : Rat) : q * (q.den : Rat) = (q.num : Rat) := by
  have h := Rat.num_divInt_den q
  rw [Rat.divInt_eq_div] at h
  have hd : ((q.den : Int) : Rat) ≠ 0 := by
    have := q.den_nz
    intro e
    exact this (by exact_mod_cast e)
  have := Rat.div_mul_cancel (a := (q.num : Rat)) hd
  rw [h] at this
  exact this
theorem plain_whole {p : Nat → Rat} {n i : Nat} (hi : i < n) (h0 : shr p n ≠ 0) : (plainP p n i).den = 1 ∧ rN (plainP p n i) ≤ rN (p i) * (shr p n).den := by
  obtain ⟨⟨t, ht⟩, ⟨f, hf⟩⟩ := shr_dvd p n i hi
  have hs : 0 < shr p n := Rat.lt_of_le_of_ne (shr_nonneg p n) (fun e => h0 e.symm)
  have hg : ((rN (shr p n) : Nat) : Int) = (shr p n).num := by
    have := qpos_iff.2 hs
    unfold rN
    omega
  have h1 := den_mul_self (p i)
  have h2 := den_mul_self (shr p n)
  obtain ⟨z, hz⟩ : ∃ z : Int, (p i).num = (shr p n).num * z := by
    rw [← hg]
    have : ((rN (shr p n) : Nat) : Int) ∣ (p i).num := by
      rw [Int.ofNat_dvd_left]
      exact ⟨t, ht⟩
    exact this
  have key : p i = ((z * f : Int) : Rat) * shr p n := by
    have hd : ((shr p n).den : Rat) ≠ 0 := by
      have := (shr p n).den_nz
      intro e
      exact this (by exact_mod_cast e)
    have e1 : p i * ((shr p n).den : Rat) = ((z * f : Int) : Rat) * shr p n * ((shr p n).den : Rat) := by
      rw [Rat.mul_assoc, h2]
      have hf' : ((shr p n).den : Rat) = ((p i).den : Rat) * (f : Rat) := by rw [hf]; exact Rat.natCast_mul _ _
      rw [hf', ← Rat.mul_assoc, h1, hz, Rat.intCast_mul, Rat.intCast_mul]
      have : ((f : Nat) : Rat) = (((f : Nat) : Int) : Rat) := rfl
      rw [this]
      grind
    have e5 : p i * ((shr p n).den : Rat) / ((shr p n).den : Rat) = ((z * f : Int) : Rat) * shr p n * ((shr p n).den : Rat) / ((shr p n).den : Rat) := by rw [e1]
    rwa [Rat.mul_div_cancel hd, Rat.mul_div_cancel hd] at e5
  have e2 : plainP p n i = ((z * f : Int) : Rat) := by
    unfold plainP
    rw [key, Rat.mul_div_cancel h0]
  rw [e2]
  refine ⟨rfl, ?_⟩
  have e3 : rN ((z * f : Int) : Rat) = z.natAbs * f := by
    show (z * (f : Int)).natAbs = _
    rw [Int.natAbs_mul]
    rfl
  rw [e3]
  have hz2 : z.natAbs ≤ rN (p i) := by
    unfold rN
    rw [hz, Int.natAbs_mul]
    have : 0 < (shr p n).num.natAbs := by have := qpos_iff.2 hs; omega
    exact Nat.le_mul_of_pos_left _ this
  have hf2 : f ≤ (shr p n).den := by
    rw [hf]
    exact Nat.le_mul_of_pos_left _ (Rat.den_pos _)
  exact Nat.mul_le_mul hz2 hf2
open Go.RowKit
theorem entPlain1 : Ent 99 := Go.Proofs.enters_of Tryz.func99 (by kernel_rfl) rfl
theorem plain1_at (bs : Nat) (v : Value) (p q : Rat) (L : Nat) (w : World) (hs : FRow w bs 1 (fun _ => q) L) (hv : FQ w v p L) (hq : q ≠ 0) (hL : L ≤ 1000000000000) (hfit : FitW L (p / q)) :
    Calls Tryz.prog 99 #[v, .pointer (some ⟨bs, 0, none⟩)] w fun e w' => FQE w (p / q) L e w' := by
  have HV := hide hv
  have HF := hide hfit
  have HQ := hide hq
  obtain ⟨vo, vl, vc, xo, xl, xc, rfl⟩ := hv.shape
  have hsl := hs.lt
  obtain ⟨uo, ul, uc, do_, dl, dc, c0, c1, c2, c3, _⟩ := hs.at 0 (by omega)
  simp only [Nat.zero_mul, Nat.zero_add] at c0 c1 c2
  have C3 := hide c3
  clear hv hfit hq c3 hs
  obtain ⟨W, hW⟩ : ∃ W, W = (w.alloc (Obj.cells #[.bool (rB p), .slice vo vl vc, .slice xo xl xc] 75)).alloc (Obj.cells #[.bool false, .slice none 0 0, .slice none 0 0] 75) := ⟨_, rfl⟩
  have GW : Hid (w.grownBy W none) := by rw [hW]; exact gr_alloc (gr_alloc (gr_refl _ _) _) _
  have CX : Hid (W.cell? ⟨w.heap.size, 0, none⟩ = some (.bool (rB p)) ∧ W.cell? ⟨w.heap.size, 1, none⟩ = some (.slice vo vl vc) ∧ W.cell? ⟨w.heap.size, 2, none⟩ = some (.slice xo xl xc)) := by
    have hg : ((w.alloc (Obj.cells #[.bool (rB p), .slice vo vl vc, .slice xo xl xc] 75)).alloc (Obj.cells #[.bool false, .slice none 0 0, .slice none 0 0] 75)).grownBy W none := by rw [← hW]; exact gr_refl _ _
    exact box_three (gr_none (gr_alloc (gr_refl _ none) _) hg)
  have RES : Hid (∀ wx, W.grownBy wx none → (wx.cell? ⟨w.heap.size + 1, 0, none⟩ = some (.bool false) ∧ wx.cell? ⟨w.heap.size + 1, 1, none⟩ = some (.slice none 0 0) ∧ wx.cell? ⟨w.heap.size + 1, 2, none⟩ = some (.slice none 0 0) ∧ ∀ i, wx.frozen? ⟨w.heap.size + 1, i, none⟩ = false) ∧ NoWords wx (w.heap.size + 1)) := by
    intro wx hg
    rw [hW] at hg
    have a3 := res_cells hg
    have a4 := noWords_res hg
    have e3 : (w.alloc (Obj.cells #[.bool (rB p), .slice vo vl vc, .slice xo xl xc] 75)).heap.size = w.heap.size + 1 := by simp
    rw [e3] at a3 a4
    exact ⟨a3, a4⟩
  obtain ⟨s0, s1, s2⟩ := CX.out
  have t0 := GW.out.cell c0 (by simp)
  have t1 := GW.out.cell c1 (by simp)
  have t2 := GW.out.cell c2 (by simp)
  clear c0 c1 c2
  go_enter Tryz.func99, Tryz.ntmps99
  go_upto_region 1 with fail
  rw [← hW]
  clear hW
  go_wp2_with fail
  refine (qOver_at _ _ p q L L W (HV.out.keep0 GW.out) (C3.out.keep0 GW.out) HQ.out (by omega)).mono ?_
  rintro e wf ⟨v6, rfl, f1, f2⟩
  obtain ⟨fo, fl, fc, fo2, fl2, fc2, rfl⟩ := f1.shape
  obtain ⟨⟨r0, r1, r2, rf⟩, nw⟩ := RES.out wf f2
  have rf0 := rf 0
  have rf1 := rf 1
  have rf2 := rf 2
  have F1 := hide (f1.tight HF.out)
  have F2 := hide f2
  have NW := hide nw
  clear rf f1 f2 nw s0 s1 s2 t0 t1 t2
  go_wp2
  refine bodyPost_ret (v := .agg #[.bool (rB (p / q)), .slice fo fl fc, .slice fo2 fl2 fc2]) (by first | (simp [results, Tryz.results99, go_sem, r0, r1, r2]; done) | (simp [results, Tryz.results99, go_sem, r0, r1, r2]; rfl)) rfl ?_
  exact ⟨_, rfl, FV.other F1.out NW.out gr_three, gr_set (gr_set (gr_set (gr_none GW.out F2.out) _ _ (by simp)) _ _ (by simp)) _ _ (by simp)⟩
def PlnR (w : World) (bs n : Nat) (p : Nat → Rat) (L : Nat) (v : Value) (wr : World) : Prop :=
  ∃ i : Nat, i ≤ n ∧ v = .int .i64 i ∧ FRow wr bs 1 (fun _ => shr p i) L ∧ w.grownBy wr none
theorem plain_at (x : Value) (n : Nat) (p : Nat → Rat) (L : Nat) (w : World) (hx : Rw w x n p L) (hp : PL p n) (hn : n ≤ 3000) (hL : L ≤ 1000000000000) (hf1 : ∀ i, i ≤ n → FitW L (shr p i)) (hf2 : ∀ i, i < n → FitW L (plainP p n i)) :
    Calls Tryz.prog 68 #[x] w fun e w' => PolE w (plainP p n) L e w' := by
  have HX := hide hx
  have HP := hide hp
  have HF1 := hide hf1
  have HF2 := hide hf2
  obtain ⟨xo, xc, rfl, hc, hm, _⟩ := hx
  unfold maxLen at hm
  clear hp hf1 hf2
  obtain ⟨bs, hbs⟩ : ∃ bs, bs = w.heap.size := ⟨_, rfl⟩
  have HB : Hid (bs = w.heap.size) := hbs
  obtain ⟨W, hW⟩ : ∃ W, W = w.alloc (Obj.cells #[.bool false, .slice none 0 0, .slice none 0 0] 75) := ⟨_, rfl⟩
  have GW : Hid (w.grownBy W none) := by rw [hW]; exact gr_alloc (gr_refl _ _) _
  have S0 : Hid (FRow W bs 1 (fun _ => shr p 0) L) := by
    rw [hW, hbs]
    refine ⟨_, _, heap_alloc_new w _, fun i hi => ?_⟩
    obtain rfl : i = 0 := by omega
    exact ⟨_, _, rfl, rfl, rfl, fq_zero _ _⟩
  go_enter Tryz.func68, Tryz.ntmps68
  go_upto_region 2 with fail
  rw [← hW, ← hbs]
  clear hW hbs
  go_wp2
  go_loopw [5, 8] (fun _ v wr => Hid (PlnR w bs n p L v wr)) (fun _ v _ => n - (intOf v).toNat)
  case atStart => exact ⟨0, by omega, rfl, S0.out, GW.out⟩
  case round =>
    obtain ⟨i, hi, rfl, l1, l2⟩ := hrel.out
    have L1 := hide l1
    have L2 := hide l2
    clear l1 l2 hrel
    by_cases hlt : i < n
    · obtain ⟨ao, c, e, h1, h2, h3⟩ := HX.out
      simp only [Value.slice.injEq, true_and] at e
      obtain ⟨ex1, ex2⟩ := e
      obtain ⟨gx, ex3, hr⟩ := h3 (by omega)
      have hgl := hr.lt
      subst ex2 ex1 ex3
      obtain ⟨uo, ul, uc, do_, dl, dc, c0, c1, c2, c3, _⟩ := (hr.keep0 L2.out).at i hlt
      have C3 := hide c3
      clear c3 hr h1 h2 h3
      go_upto_region 5 with fail
      obtain ⟨w2, hw2⟩ : ∃ w2, w2 = wr.alloc (Obj.cells #[.bool (rB (p i)), .slice uo ul uc, .slice do_ dl dc] 75) := ⟨_, rfl⟩
      have G2 : Hid (wr.grownBy w2 none) := by rw [hw2]; exact gr_alloc (gr_refl _ _) _
      have XC : Hid (w2.cell? ⟨wr.heap.size, 0, none⟩ = some (.bool (rB (p i))) ∧ w2.cell? ⟨wr.heap.size, 1, none⟩ = some (.slice uo ul uc) ∧ w2.cell? ⟨wr.heap.size, 2, none⟩ = some (.slice do_ dl dc)) := by
        have hg : (wr.alloc (Obj.cells #[.bool (rB (p i)), .slice uo ul uc, .slice do_ dl dc] 75)).grownBy w2 none := by rw [← hw2]; exact gr_refl _ _
        exact box_three hg
      rw [← hw2]
      clear hw2 c0 c1 c2
      obtain ⟨x0, x1, x2⟩ := XC.out
      have F2 := hide (L1.out.keep0 G2.out)
      obtain ⟨so, sl, sc, so2, sl2, sc2, d0, d1, d2, d3, _⟩ := F2.out.at 0 (by omega)
      simp only [Nat.zero_mul, Nat.zero_add] at d0 d1 d2
      have D3 := hide d3
      clear d3
      go_wp2_with fail
      refine (qcommon_at _ _ (shr p i) (p i) L L w2 D3.out (C3.out.keep0 G2.out) (by omega)).mono ?_
      rintro e w3 ⟨v3, rfl, f1, f2⟩
      obtain ⟨fo, fl, fc, fo2, fl2, fc2, rfl⟩ := f1.shape
      have F1 : Hid (FQ w3 (.agg #[.bool (rB (cmnQ (shr p i) (p i))), .slice fo fl fc, .slice fo2 fl2 fc2]) (cmnQ (shr p i) (p i)) L) := f1.tight (HF1.out (i + 1) (by omega))
      have G3 := hide (gr_none G2.out f2)
      have F4 := hide (L1.out.keep0 G3.out)
      obtain ⟨_, _, _, _, _, _, e0, e1, e2, _, df⟩ := F4.out.at 0 (by omega)
      simp only [Nat.zero_mul, Nat.zero_add] at e0 e1 e2
      have df0 := df 0
      have df1 := df 1
      have df2 := df 2
      clear f1 f2 df x0 x1 x2 d0 d1 d2
      go_wp2
      go_roundw
      case rel =>
        obtain ⟨r1, r2, r3⟩ := F4.out.set 0 (by omega) F1.out
        refine ⟨i + 1, by omega, by go_num, ?_, ?_⟩
        · exact r1.congr (fun j hj => by obtain rfl : j = 0 := by omega
                                         rfl)
        · refine gr_own2 (gr_none L2.out G3.out) r2 (fun k e => ?_)
          have := HB.out
          cases e
          omega
      case measure => simp [intOf]; omega
    · obtain rfl : i = n := by omega
      go_wp2_with fail
      refine (each_at _ i 99 #[] #[.pointer (some ⟨bs, 0, none⟩)] p (plainP p i) L wr entPlain1 (HX.out.keep0 L2.out) hn (fun j hj => by unfold plainP; rw [HP.out.1 j hj]; grind) ?_).mono ?_
      · intro j hj v wx hg hv
        refine (plain1_at bs v (p j) (shr p i) L wx (L1.out.keep0 hg) hv ?_ hL (HF2.out j hj)).mono (fun _ _ h => h)
        exact shr_ne (i := i - 1) (by omega) (HP.out.2 (by omega))
      · rintro e w2 ⟨v, m, rfl, h1, h2, h3⟩
        obtain ⟨ao, c, rfl, k1, k2, k3⟩ := h1
        have K3 := hide k3
        have K2 := hide k2
        have H2 := hide h2
        have H3 := hide h3
        clear k3 k2 h2 h3
        go_wp2
        go_ret
        exact ⟨_, m, rfl, ⟨ao, c, rfl, k1, K2.out, K3.out⟩, H2.out, gr_none L2.out H3.out⟩
end Go.Proofs.YtklkpkkjakllfaaGreatDoor
