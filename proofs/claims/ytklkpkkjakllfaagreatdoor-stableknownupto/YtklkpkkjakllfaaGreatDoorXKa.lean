/- Polynomials as rows of numbers: sums, multiples, lengths. -/
import Derived.Test.YtklkpkkjakllfaaGreatDoorXTCount
set_option linter.unusedVariables false
set_option linter.unusedSimpArgs false
namespace Go.Proofs.YtklkpkkjakllfaaGreatDoor.K
abbrev Po := Nat → Rat
def zr : Po := fun _ => 0
def ad (x y : Po) : Po := fun i => x i + y i
def sb (x y : Po) : Po := fun i => x i - y i
def sm (k : Rat) (x : Po) : Po := fun i => k * x i
def sh (x : Po) : Po := fun i => if i = 0 then 0 else x (i - 1)
def ln (a b : Rat) (x : Po) : Po := ad (sm a (sh x)) (sm b x)
theorem sh_succ (x : Po) (i : Nat) : sh x (i + 1) = x i := by unfold sh; simp
theorem sh_0 (x : Po) : sh x 0 = 0 := rfl
theorem sh_ad (x y : Po) : sh (ad x y) = ad (sh x) (sh y) := by
  funext i
  cases i with
  | zero => simp [sh, ad]; decide +kernel
  | succ i => simp [sh, ad]
theorem sh_sb (x y : Po) : sh (sb x y) = sb (sh x) (sh y) := by
  funext i
  cases i with
  | zero => simp [sh, sb]; decide +kernel
  | succ i => simp [sh, sb]
theorem sh_sm (k : Rat) (x : Po) : sh (sm k x) = sm k (sh x) := by
  funext i
  cases i with
  | zero => simp [sh, sm]
  | succ i => simp [sh, sm]
theorem sh_zr : sh zr = zr := by
  funext i
  cases i <;> simp [sh, zr]
theorem sm_zr (k : Rat) : sm k zr = zr := by funext i; simp [sm, zr]
theorem sm_one (x : Po) : sm 1 x = x := by funext i; simp [sm]
theorem sm_sm (k l : Rat) (x : Po) : sm k (sm l x) = sm (k * l) x := by funext i; simp only [sm]; grind
theorem ad_zr (x : Po) : ad x zr = x := by funext i; simp only [ad, zr]; grind
theorem zr_ad (x : Po) : ad zr x = x := by funext i; simp only [ad, zr]; grind
theorem sb_zr (x : Po) : sb x zr = x := by funext i; simp only [sb, zr]; grind
theorem sb_self (x : Po) : sb x x = zr := by funext i; simp only [sb, zr]; grind
def mulL : List Rat → Po → Po
  | [], _ => zr
  | c :: q, x => ad (sm c x) (sh (mulL q x))
def addL : List Rat → List Rat → List Rat
  | [], q => q
  | p, [] => p
  | a :: p, b :: q => (a + b) :: addL p q
theorem mulL_add (x : Po) : ∀ p q, mulL (addL p q) x = ad (mulL p x) (mulL q x)
  | [], q => by simp only [addL, mulL]; rw [zr_ad]
  | a :: p, [] => by simp only [addL, mulL]; rw [ad_zr]
  | a :: p, b :: q => by
    simp only [addL, mulL, mulL_add x p q, sh_ad]
    funext i
    simp only [ad, sm]
    grind
theorem mulL_sm (k : Rat) (x : Po) : ∀ q, mulL (q.map (k * ·)) x = sm k (mulL q x)
  | [] => by simp only [List.map, mulL]; rw [sm_zr]
  | c :: q => by
    simp only [List.map, mulL, mulL_sm k x q, sh_sm]
    funext i
    simp only [ad, sm]
    grind
def Mu (x z : Po) : Prop := ∃ q, z = mulL q x
theorem Mu.zero (x : Po) : Mu x zr := ⟨[], rfl⟩
theorem Mu.self (x : Po) : Mu x x := ⟨[1], by simp only [mulL]; rw [sh_zr, ad_zr, sm_one]⟩
theorem Mu.add {x y z : Po} (h : Mu x y) (k : Mu x z) : Mu x (ad y z) := by
  obtain ⟨p, rfl⟩ := h
  obtain ⟨q, rfl⟩ := k
  exact ⟨addL p q, (mulL_add x p q).symm⟩
theorem Mu.sm {x y : Po} (k : Rat) (h : Mu x y) : Mu x (K.sm k y) := by
  obtain ⟨p, rfl⟩ := h
  exact ⟨p.map (k * ·), (mulL_sm k x p).symm⟩
theorem Mu.sh {x y : Po} (h : Mu x y) : Mu x (K.sh y) := by
  obtain ⟨p, rfl⟩ := h
  refine ⟨0 :: p, ?_⟩
  simp only [mulL]
  funext i
  simp only [ad, K.sm]
  grind
theorem Mu.sub {x y z : Po} (h : Mu x y) (k : Mu x z) : Mu x (sb y z) := by
  have e : sb y z = ad y (K.sm (-1) z) := by funext i; simp only [sb, ad, K.sm]; grind
  rw [e]
  exact h.add (k.sm _)
theorem Mu.ln {x y : Po} (a b : Rat) (h : Mu x y) : Mu x (K.ln a b y) := (h.sh.sm a).add (h.sm b)
theorem Mu.mulL {x y : Po} (h : Mu x y) : ∀ q, Mu x (K.mulL q y)
  | [] => Mu.zero x
  | c :: q => (h.sm c).add (Mu.mulL h q).sh
theorem Mu.trans {x y z : Po} (h : Mu x y) (k : Mu y z) : Mu x z := by
  obtain ⟨q, rfl⟩ := k
  exact h.mulL q
theorem Mu.of_sm {x y : Po} {k : Rat} (hk : k ≠ 0) (h : Mu x y) : Mu (K.sm k x) y := by
  have : Mu (K.sm k x) x := by
    have h1 := (Mu.self (K.sm k x)).sm k⁻¹
    rw [sm_sm, Rat.inv_mul_cancel k hk, sm_one] at h1
    exact h1
  exact this.trans h
def Fs (x : Po) : Prop := ∃ n, ∀ i, n ≤ i → x i = 0
theorem Fs.zr : Fs zr := ⟨0, fun _ _ => rfl⟩
theorem Fs.ad {x y : Po} (h : Fs x) (k : Fs y) : Fs (ad x y) := by
  obtain ⟨n, hn⟩ := h
  obtain ⟨m, hm⟩ := k
  refine ⟨n + m, fun i hi => ?_⟩
  show x i + y i = 0
  rw [hn i (by omega), hm i (by omega)]
  exact Rat.add_zero 0
theorem Fs.sm {x : Po} (k : Rat) (h : Fs x) : Fs (sm k x) := by
  obtain ⟨n, hn⟩ := h
  refine ⟨n, fun i hi => ?_⟩
  show k * x i = 0
  rw [hn i hi, Rat.mul_zero]
theorem Fs.sb {x y : Po} (h : Fs x) (k : Fs y) : Fs (sb x y) := by
  have e : K.sb x y = K.ad x (K.sm (-1) y) := by funext i; simp only [K.sb, K.ad, K.sm]; grind
  rw [e]
  exact h.ad (k.sm _)
theorem Fs.sh {x : Po} (h : Fs x) : Fs (sh x) := by
  obtain ⟨n, hn⟩ := h
  refine ⟨n + 1, fun i hi => ?_⟩
  obtain ⟨j, rfl⟩ : ∃ j, i = j + 1 := ⟨i - 1, by omega⟩
  rw [sh_succ]
  exact hn j (by omega)
theorem Fs.ln {x : Po} (a b : Rat) (h : Fs x) : Fs (ln a b x) := (h.sh.sm a).ad (h.sm b)
theorem Fs.mulL {x : Po} (h : Fs x) : ∀ q, Fs (mulL q x)
  | [] => Fs.zr
  | c :: q => (h.sm c).ad (Fs.mulL h q).sh
theorem Fs.mu {x y : Po} (h : Fs x) (k : Mu x y) : Fs y := by
  obtain ⟨q, rfl⟩ := k
  exact h.mulL q
end Go.Proofs.YtklkpkkjakllfaaGreatDoor.K
namespace Go.Proofs.YtklkpkkjakllfaaGreatDoor
theorem PL.fs {x : Nat → Rat} {n : Nat} (h : PL x n) : K.Fs x := ⟨n, h.1⟩
end Go.Proofs.YtklkpkkjakllfaaGreatDoor
namespace Go.Proofs.YtklkpkkjakllfaaGreatDoor.K
theorem Fs.pl {x : Po} (h : Fs x) : ∃ n, PL x n := by
  obtain ⟨n, hn⟩ := h
  induction n with
  | zero => exact ⟨0, hn, fun h => absurd h (Nat.lt_irrefl _)⟩
  | succ n ih =>
    by_cases e : x n = 0
    · refine ih (fun i hi => ?_)
      by_cases e2 : i = n
      · rw [e2]; exact e
      · exact hn i (by omega)
    · exact ⟨n + 1, hn, fun _ => e⟩
noncomputable def len (x : Po) : Nat := Classical.epsilon (fun n => PL x n)
theorem Fs.len {x : Po} (h : Fs x) : PL x (len x) := Classical.epsilon_spec h.pl
end Go.Proofs.YtklkpkkjakllfaaGreatDoor.K
namespace Go.Proofs.YtklkpkkjakllfaaGreatDoor
theorem PL.len {x : Nat → Rat} {n : Nat} (h : PL x n) : K.len x = n := PL_uniq h.fs.len h
end Go.Proofs.YtklkpkkjakllfaaGreatDoor
namespace Go.Proofs.YtklkpkkjakllfaaGreatDoor.K
noncomputable def lc (x : Po) : Rat := x (len x - 1)
theorem PL0 {x : Po} (h : PL x 0) : x = zr := funext fun i => h.1 i (Nat.zero_le _)
theorem len_zr : len zr = 0 := PL.len ⟨fun _ _ => rfl, fun h => absurd h (Nat.lt_irrefl _)⟩
theorem len_eq_0 {x : Po} (h : Fs x) : len x = 0 ↔ x = zr := by
  constructor
  · intro e
    have := h.len
    rw [e] at this
    exact PL0 this
  · intro e
    rw [e]
    exact len_zr
theorem lc_zr : lc zr = 0 := rfl
theorem lc_ne {x : Po} (h : Fs x) (hx : x ≠ zr) : lc x ≠ 0 := h.len.2 (Nat.pos_of_ne_zero fun e => hx ((len_eq_0 h).1 e))
theorem len_pos {x : Po} (h : Fs x) (hx : x ≠ zr) : 0 < len x := Nat.pos_of_ne_zero fun e => hx ((len_eq_0 h).1 e)
theorem out {x : Po} (h : Fs x) {i : Nat} (hi : len x ≤ i) : x i = 0 := h.len.1 i hi
theorem len_le {x : Po} (h : Fs x) {n : Nat} (k : ∀ i, n ≤ i → x i = 0) : len x ≤ n := by
  rcases Nat.lt_or_ge n (len x) with e | e
  · exact absurd (k (len x - 1) (by omega)) (h.len.2 (by omega))
  · exact e
theorem PL_top {x : Po} {n : Nat} (k : ∀ i, n + 1 ≤ i → x i = 0) (h : x n ≠ 0) : PL x (n + 1) := ⟨k, fun _ => h⟩
theorem PL_sm {x : Po} {n : Nat} {k : Rat} (hk : k ≠ 0) (h : PL x n) : PL (sm k x) n := by
  refine ⟨fun i hi => ?_, fun hn e => ?_⟩
  · show k * x i = 0
    rw [h.1 i hi, Rat.mul_zero]
  · rcases Rat.mul_eq_zero.1 (show k * x (n - 1) = 0 from e) with e | e
    · exact hk e
    · exact h.2 hn e
theorem len_sm {x : Po} {k : Rat} (hx : Fs x) (hk : k ≠ 0) : len (sm k x) = len x := (PL_sm hk hx.len).len
theorem lc_sm {x : Po} {k : Rat} (hx : Fs x) (hk : k ≠ 0) : lc (sm k x) = k * lc x := by
  unfold lc
  rw [len_sm hx hk]
  rfl
theorem sm_ne {x : Po} {k : Rat} (hk : k ≠ 0) (hx : x ≠ zr) : sm k x ≠ zr := by
  intro e
  refine hx ?_
  have := congrArg (sm k⁻¹) e
  rw [sm_sm, Rat.inv_mul_cancel k hk, sm_one, sm_zr] at this
  exact this
theorem mulL_len {x : Po} {n : Nat} (h : PL x n) (hn : 0 < n) : ∀ q, mulL q x = zr ∨ ∃ m, n ≤ m ∧ PL (mulL q x) m
  | [] => .inl rfl
  | c :: q => by
    simp only [mulL]
    rcases mulL_len h hn q with e | ⟨m, hm, k⟩
    · rw [e, sh_zr, ad_zr]
      by_cases hc : c = 0
      · refine .inl (funext fun i => ?_)
        show c * x i = 0
        rw [hc, Rat.zero_mul]
      · exact .inr ⟨n, Nat.le_refl _, PL_sm hc h⟩
    · refine .inr ⟨m + 1, by omega, PL_top (fun i hi => ?_) ?_⟩
      · obtain ⟨j, rfl⟩ : ∃ j, i = j + 1 := ⟨i - 1, by omega⟩
        show c * x (j + 1) + sh (mulL q x) (j + 1) = 0
        rw [sh_succ, h.1 _ (by omega), k.1 j (by omega)]
        grind
      · obtain ⟨j, rfl⟩ : ∃ j, m = j + 1 := ⟨m - 1, by omega⟩
        show c * x (j + 1) + sh (mulL q x) (j + 1) ≠ 0
        rw [sh_succ, h.1 _ (by omega)]
        have := k.2 (by omega)
        have e : c * (0 : Rat) + mulL q x j = mulL q x j := by grind
        rw [e]
        exact this
theorem Mu.len {x z : Po} (hx : Fs x) (hx0 : x ≠ zr) (h : Mu x z) (hz : z ≠ zr) : len x ≤ len z := by
  obtain ⟨q, rfl⟩ := h
  rcases mulL_len hx.len (len_pos hx hx0) q with e | ⟨m, hm, k⟩
  · exact absurd e hz
  · rw [k.len]
    exact hm
end Go.Proofs.YtklkpkkjakllfaaGreatDoor.K
namespace Go.Proofs.YtklkpkkjakllfaaGreatDoor.K
theorem sgn_mul (a b : Rat) : sgn1 (a * b) = sgn1 a * sgn1 b := by
  have pos : ∀ q : Rat, 0 < q → sgn1 q = 1 := fun q h => by
    unfold sgn1
    refine Int.sign_eq_one_of_pos ?_
    rcases Int.lt_trichotomy q.num 0 with k | k | k
    · have : ¬ 0 ≤ q := fun e => by have := Rat.num_nonneg.2 e; omega
      grind
    · have := Rat.num_eq_zero.1 k
      grind
    · exact k
  have neg : ∀ q : Rat, q < 0 → sgn1 q = -1 := fun q h => by
    unfold sgn1
    refine Int.sign_eq_neg_one_of_neg ?_
    rcases Classical.em (q.num < 0) with k | k
    · exact k
    · have := Rat.num_nonneg.1 (Int.not_lt.1 k)
      grind
  have zero : sgn1 0 = 0 := rfl
  rcases Classical.em (a < 0) with ha | ha
  · rcases Classical.em (b < 0) with hb | hb
    · have : 0 < a * b := by
        have := Rat.mul_pos (show 0 < -a by grind) (show 0 < -b by grind)
        grind
      rw [pos _ this, neg _ ha, neg _ hb]; rfl
    · rcases Classical.em (b = 0) with h0 | h0
      · rw [h0, Rat.mul_zero, zero, Int.mul_zero]
      · have hb2 : 0 < b := by grind
        have : a * b < 0 := by
          have := Rat.mul_pos (show 0 < -a by grind) hb2
          grind
        rw [neg _ this, neg _ ha, pos _ hb2]; rfl
  · rcases Classical.em (a = 0) with h0 | h0
    · rw [h0, Rat.zero_mul, zero, Int.zero_mul]
    · have ha2 : 0 < a := by grind
      rcases Classical.em (b < 0) with hb | hb
      · have : a * b < 0 := by
          have := Rat.mul_pos ha2 (show 0 < -b by grind)
          grind
        rw [neg _ this, pos _ ha2, neg _ hb]; rfl
      · rcases Classical.em (b = 0) with h0 | h0
        · rw [h0, Rat.mul_zero, zero, Int.mul_zero]
        · have hb2 : 0 < b := by grind
          rw [pos _ (Rat.mul_pos ha2 hb2), pos _ ha2, pos _ hb2]; rfl
theorem sgn_zero : sgn1 0 = 0 := rfl
theorem sgn_cases {a : Rat} (h : a ≠ 0) : (0 < a ∧ sgn1 a = 1) ∨ (a < 0 ∧ sgn1 a = -1) := by
  unfold sgn1
  rcases Int.lt_trichotomy a.num 0 with k | k | k
  · refine .inr ⟨?_, Int.sign_eq_neg_one_of_neg k⟩
    rcases Classical.em (0 ≤ a) with e | e
    · have := Rat.num_nonneg.2 e; omega
    · grind
  · exact absurd (Rat.num_eq_zero.1 k) h
  · refine .inl ⟨?_, Int.sign_eq_one_of_pos k⟩
    have := Rat.num_nonneg.1 (Int.le_of_lt k)
    grind
theorem sgn_pos {a : Rat} (h : 0 < a) : sgn1 a = 1 := by
  rcases sgn_cases (a := a) (by grind) with k | k
  · exact k.2
  · grind
theorem sgn_neg (a : Rat) : sgn1 (-a) = -sgn1 a := by
  have : -a = (-1) * a := by grind
  rw [this, sgn_mul]
  have : sgn1 (-1) = -1 := rfl
  rw [this]
  omega
theorem sgn_sq {a : Rat} (h : a ≠ 0) : sgn1 a * sgn1 a = 1 := by
  rcases sgn_cases h with k | k <;> rw [k.2] <;> rfl
theorem sgn_inv {a : Rat} (h : a ≠ 0) : sgn1 a⁻¹ = sgn1 a := by
  have h1 : sgn1 (a⁻¹ * a) = 1 := by rw [Rat.inv_mul_cancel a h]; rfl
  rw [sgn_mul] at h1
  rcases sgn_cases h with k | k <;> rw [k.2] at h1 ⊢ <;> omega
noncomputable def eps (x y : Po) : Int := if (len x + len y) % 2 = 1 then sgn1 (lc x) * sgn1 (lc y) else 0
theorem eps_comm (x y : Po) : eps x y = eps y x := by
  unfold eps
  rw [Nat.add_comm, Int.mul_comm]
theorem eps_zr (x : Po) : eps x zr = 0 := by
  unfold eps
  rw [lc_zr, sgn_zero, Int.mul_zero, ite_self]
theorem eps_sm {x y : Po} {k : Rat} (hy : Fs y) : eps x (sm k y) = sgn1 k * eps x y := by
  by_cases hk : k = 0
  · have : sm k y = zr := by funext i; simp only [sm, zr]; rw [hk, Rat.zero_mul]
    rw [this, eps_zr, hk, sgn_zero, Int.zero_mul]
  · unfold eps
    rw [len_sm hy hk, lc_sm hy hk, sgn_mul]
    split
    · rw [← Int.mul_assoc, Int.mul_comm (sgn1 (lc x)), Int.mul_assoc]
    · rw [Int.mul_zero]
theorem eps_sml {x y : Po} {k : Rat} (hx : Fs x) : eps (sm k x) y = sgn1 k * eps x y := by rw [eps_comm, eps_sm hx, eps_comm]
def Rm (x y r : Po) : Prop := Fs r ∧ len r < len x ∧ Mu x (sb y r)
theorem rm_uniq {x y r s : Po} (hx : Fs x) (h : Rm x y r) (k : Rm x y s) : r = s := by
  have hx0 : x ≠ zr := fun e => by have h2 := h.2.1; rw [e, len_zr] at h2; exact absurd h2 (Nat.not_lt_zero _)
  have h1 : Mu x (sb s r) := by
    have := h.2.2.sub k.2.2
    have e : sb (sb y r) (sb y s) = sb s r := by funext i; simp only [sb]; grind
    rwa [e] at this
  rcases Classical.em (sb s r = zr) with e | e
  · funext i
    have := congrFun e i
    simp only [sb, zr] at this
    grind
  · have h2 := h1.len hx hx0 e
    have h3 : len (sb s r) ≤ len x - 1 := by
      refine len_le (k.1.sb h.1) (fun i hi => ?_)
      show s i - r i = 0
      rw [out k.1 (by have := k.2.1; omega), out h.1 (by have := h.2.1; omega)]
      grind
    have := h.2.1
    omega
def up : Nat → Po → Po
  | 0, x => x
  | j + 1, x => sh (up j x)
theorem up_at (x : Po) : ∀ j i, up j x (i + j) = x i
  | 0, i => rfl
  | j + 1, i => by rw [← Nat.add_assoc, up, sh_succ, up_at x j i]
theorem up_low (x : Po) : ∀ j i, i < j → up j x i = 0
  | j + 1, 0, _ => rfl
  | j + 1, i + 1, h => by rw [up, sh_succ, up_low x j i (by omega)]
theorem up_fs {x : Po} (h : Fs x) : ∀ j, Fs (up j x)
  | 0 => h
  | j + 1 => (up_fs h j).sh
theorem up_mu (x : Po) : ∀ j, Mu x (up j x)
  | 0 => .self x
  | j + 1 => (up_mu x j).sh
theorem rm_ex {x : Po} (hx : Fs x) (hx0 : x ≠ zr) : ∀ (n : Nat) (y : Po), Fs y → len y ≤ n → ∃ r, Rm x y r := by
  intro n
  induction n with
  | zero =>
    intro y hy hn
    refine ⟨y, hy, ?_, ?_⟩
    · have := len_pos hx hx0; omega
    · rw [sb_self]; exact .zero x
  | succ n ih =>
    intro y hy hn
    rcases Nat.lt_or_ge (len y) (len x) with e | e
    · exact ⟨y, hy, e, by rw [sb_self]; exact .zero x⟩
    · have hp := len_pos hx hx0
      have hl := lc_ne hx hx0
      let k := lc y / lc x
      let y' := sb y (sm k (up (len y - len x) x))
      have fy' : Fs y' := hy.sb ((up_fs hx _).sm _)
      have hle : len y' ≤ n := by
        refine Nat.le_trans (len_le fy' (n := len y - 1) (fun i hi => ?_)) (by omega)
        show y i - k * up (len y - len x) x i = 0
        obtain ⟨j, rfl⟩ : ∃ j, i = j + (len y - len x) := ⟨i - (len y - len x), by omega⟩
        rw [up_at]
        rcases Nat.lt_or_ge (len x - 1) j with hj | hj
        · rw [out hy (by omega), out hx (by omega)]
          grind
        · have ej : j = len x - 1 := by omega
          subst ej
          have e1 : len x - 1 + (len y - len x) = len y - 1 := by omega
          rw [e1]
          show lc y - k * lc x = 0
          have : k * lc x = lc y := Rat.div_mul_cancel hl
          grind
      obtain ⟨r, fr, hr, mr⟩ := ih y' fy' hle
      refine ⟨r, fr, hr, ?_⟩
      have e2 : sb y r = ad (sb y' r) (sm k (up (len y - len x) x)) := by
        funext i
        show y i - r i = (y i - k * up (len y - len x) x i - r i) + k * up (len y - len x) x i
        grind
      rw [e2]
      exact mr.add ((up_mu x _).sm k)
noncomputable def rem (x y : Po) : Po := Classical.epsilon (fun r => Rm x y r)
theorem rem_rm {x y : Po} (hx : Fs x) (hx0 : x ≠ zr) (hy : Fs y) : Rm x y (rem x y) := Classical.epsilon_spec (rm_ex hx hx0 _ y hy (Nat.le_refl _))
noncomputable def idxF : Nat → Po → Po → Int
  | 0, _, _ => 0
  | n + 1, x, y => if len x = 0 then 0 else eps x (rem x y) - idxF n (rem x y) x
noncomputable def idx (x y : Po) : Int := idxF (len x) x y
theorem idxF_zero {x : Po} (h : len x = 0) (y : Po) : ∀ n, idxF n x y = 0
  | 0 => rfl
  | n + 1 => by rw [idxF, if_pos h]
theorem idxF_fuel : ∀ (n m : Nat) (x y : Po), Fs x → Fs y → len x ≤ n → len x ≤ m → idxF n x y = idxF m x y := by
  intro n
  induction n with
  | zero =>
    intro m x y hx hy hn hm
    rw [idxF_zero (by omega), idxF_zero (by omega)]
  | succ n ih =>
    intro m x y hx hy hn hm
    by_cases h0 : len x = 0
    · rw [idxF_zero h0, idxF_zero h0]
    · obtain ⟨m, rfl⟩ : ∃ k, m = k + 1 := ⟨m - 1, by omega⟩
      have hr := rem_rm hx (fun e => h0 (by rw [e, len_zr])) hy
      have := hr.2.1
      rw [idxF, idxF, if_neg h0, if_neg h0, ih m _ x hr.1 hx (by omega) (by omega)]
theorem idx_nil {x : Po} (y : Po) (h : x = zr) : idx x y = 0 := by
  unfold idx
  exact idxF_zero (by rw [h, len_zr]) y _
theorem idx_step {x y r : Po} (hx : Fs x) (hx0 : x ≠ zr) (hy : Fs y) (h : Rm x y r) : idx x y = eps x r - idx r x := by
  have hr := rem_rm hx hx0 hy
  have e := rm_uniq hx h hr
  have hp := len_pos hx hx0
  have hl := h.2.1
  obtain ⟨n, hn⟩ : ∃ n, len x = n + 1 := ⟨len x - 1, by omega⟩
  show idxF (len x) x y = _
  rw [hn, idxF, if_neg (by omega), ← e, idxF_fuel n (len r) r x h.1 hx (by omega) (Nat.le_refl _)]
  rfl
theorem Rm.same {x y z r : Po} (h : Rm x y r) (k : Mu x (sb z y)) : Rm x z r := by
  refine ⟨h.1, h.2.1, ?_⟩
  have e : sb z r = ad (sb z y) (sb y r) := by funext i; simp only [sb, ad]; grind
  rw [e]
  exact k.add h.2.2
theorem idx_add {x y z : Po} (hx : Fs x) (hy : Fs y) (hz : Fs z) (k : Mu x (sb z y)) : idx x z = idx x y := by
  by_cases h0 : x = zr
  · rw [idx_nil _ h0, idx_nil _ h0]
  · obtain ⟨r, hr⟩ := rm_ex hx h0 _ y hy (Nat.le_refl _)
    rw [idx_step hx h0 hy hr, idx_step hx h0 hz (hr.same k)]
theorem idx_zr (x : Po) (hx : Fs x) : idx x zr = 0 := by
  by_cases h0 : x = zr
  · exact idx_nil _ h0
  · have hr : Rm x zr zr := ⟨.zr, by rw [len_zr]; exact len_pos hx h0, by rw [sb_self]; exact .zero x⟩
    rw [idx_step hx h0 .zr hr, eps_zr, idx_nil _ rfl]
    rfl
theorem idx_scale : ∀ (n : Nat) (x y : Po) (k : Rat), Fs x → Fs y → k ≠ 0 → len x ≤ n → idx x (sm k y) = sgn1 k * idx x y ∧ idx (sm k x) y = sgn1 k * idx x y := by
  intro n
  induction n with
  | zero =>
    intro x y k hx hy hk hn
    have h0 : x = zr := (len_eq_0 hx).1 (by omega)
    rw [idx_nil _ h0, idx_nil _ h0, idx_nil _ (by rw [h0, sm_zr])]
    simp
  | succ n ih =>
    intro x y k hx hy hk hn
    by_cases h0 : x = zr
    · rw [idx_nil _ h0, idx_nil _ h0, idx_nil _ (by rw [h0, sm_zr])]
      simp
    · obtain ⟨r, hr⟩ := rm_ex hx h0 _ y hy (Nat.le_refl _)
      have hl := hr.2.1
      have i := ih r x k hr.1 hx hk (by omega)
      rw [idx_step hx h0 hy hr]
      constructor
      · have h1 : Rm x (sm k y) (sm k r) := by
          refine ⟨hr.1.sm k, by rw [len_sm hr.1 hk]; exact hl, ?_⟩
          have e : sb (sm k y) (sm k r) = sm k (sb y r) := by funext i; simp only [sb, sm]; grind
          rw [e]
          exact hr.2.2.sm k
        rw [idx_step hx h0 (hy.sm k) h1, eps_sm hr.1, i.2, Int.mul_sub]
      · have h1 : Rm (sm k x) y r := ⟨hr.1, by rw [len_sm hx hk]; exact hl, hr.2.2.of_sm hk⟩
        rw [idx_step (hx.sm k) (sm_ne hk h0) hy h1, eps_sml hx, i.1, Int.mul_sub]
theorem idx_smr {x y : Po} {k : Rat} (hx : Fs x) (hy : Fs y) : idx x (sm k y) = sgn1 k * idx x y := by
  by_cases hk : k = 0
  · have : sm k y = zr := by funext i; simp only [sm, zr]; rw [hk, Rat.zero_mul]
    rw [this, idx_zr x hx, hk, sgn_zero, Int.zero_mul]
  · exact (idx_scale _ x y k hx hy hk (Nat.le_refl _)).1
theorem idx_sml {x y : Po} {k : Rat} (hx : Fs x) (hy : Fs y) (hk : k ≠ 0) : idx (sm k x) y = sgn1 k * idx x y := (idx_scale _ x y k hx hy hk (Nat.le_refl _)).2
theorem rm_short {x y : Po} (hy : Fs y) (h : len y < len x) : Rm x y y := ⟨hy, h, by rw [sb_self]; exact .zero x⟩
theorem idx_turn {x y : Po} (hx : Fs x) (hy : Fs y) (hx0 : x ≠ zr) (hy0 : y ≠ zr) : idx x y + idx y x = eps x y := by
  rcases Nat.lt_trichotomy (len y) (len x) with h | h | h
  · rw [idx_step hx hx0 hy (rm_short hy h)]
    omega
  · -- as long as each other
    have hl := lc_ne hx hx0
    have hl2 := lc_ne hy hy0
    have hp := len_pos hx hx0
    obtain ⟨k, hk⟩ : ∃ k, k = lc y / lc x := ⟨_, rfl⟩
    have hkl : k * lc x = lc y := by rw [hk]; exact Rat.div_mul_cancel hl
    have hk0 : k ≠ 0 := fun e => hl2 (by rw [← hkl, e, Rat.zero_mul])
    obtain ⟨z, hz⟩ : ∃ z, z = sb y (sm k x) := ⟨_, rfl⟩
    have fz : Fs z := by rw [hz]; exact hy.sb (hx.sm k)
    have hzl : len z ≤ len x - 1 := by
      refine len_le fz (fun i hi => ?_)
      rw [hz]
      show y i - k * x i = 0
      by_cases e : i = len x - 1
      · subst e
        have : y (len x - 1) = lc y := by unfold lc; rw [h]
        rw [this]
        show lc y - k * lc x = 0
        grind
      · rw [out hy (by omega), out hx (by omega)]
        grind
    have h1 : Rm x y z := by
      refine ⟨fz, by omega, ?_⟩
      have e : sb y z = sm k x := by rw [hz]; funext i; simp only [sb]; grind
      rw [e]
      exact (Mu.self x).sm k
    have h2 : Rm y x (sm (-k⁻¹) z) := by
      have hki : -k⁻¹ ≠ 0 := by
        intro e
        have : k⁻¹ = 0 := by grind
        have := Rat.inv_mul_cancel k hk0
        grind
      refine ⟨fz.sm _, by rw [len_sm fz hki]; omega, ?_⟩
      have e : sb x (sm (-k⁻¹) z) = sm k⁻¹ y := by
        rw [hz]
        funext i
        simp only [sb, sm]
        have := Rat.inv_mul_cancel k hk0
        grind
      rw [e]
      exact (Mu.self y).sm _
    have hki : -k⁻¹ ≠ 0 := by
      intro e
      have : k⁻¹ = 0 := by grind
      have := Rat.inv_mul_cancel k hk0
      grind
    rw [idx_step hx hx0 hy h1, idx_step hy hy0 hx h2, idx_sml fz hy hki, eps_sm fz]
    have h3 : idx z y = sgn1 k * idx z x := by
      rw [← idx_smr fz hx]
      refine idx_add fz (hx.sm k) hy ?_
      rw [← hz]
      exact .self z
    have h4 : eps y z = sgn1 k * eps x z := by
      unfold eps
      rw [h, ← hkl, sgn_mul]
      split
      · rw [Int.mul_assoc]
      · rw [Int.mul_zero]
    have h5 : eps x y = 0 := by
      unfold eps
      rw [h, if_neg (by omega)]
    rw [h3, h4, h5, sgn_neg, sgn_inv hk0]
    have h6 := sgn_sq hk0
    have h7 : -sgn1 k * (sgn1 k * eps x z) = -eps x z := by
      rw [← Int.mul_assoc, Int.neg_mul, h6]
      omega
    have h8 : -sgn1 k * (sgn1 k * idx z x) = -idx z x := by
      rw [← Int.mul_assoc, Int.neg_mul, h6]
      omega
    rw [h7, h8]
    omega
  · rw [idx_step hy hy0 hx (rm_short hx h), eps_comm x y]
    omega
end Go.Proofs.YtklkpkkjakllfaaGreatDoor.K
namespace Go.Proofs.YtklkpkkjakllfaaGreatDoor.K
def dq (c a : Rat) (x : Po) : Po := ad (ln 1 c (ln 1 c x)) (sm (a * a) x)
theorem ln_ad (a b : Rat) (x y : Po) : ln a b (ad x y) = ad (ln a b x) (ln a b y) := by
  unfold ln
  rw [sh_ad]
  funext i
  simp only [ad, sm]
  grind
theorem ln_sb (a b : Rat) (x y : Po) : ln a b (sb x y) = sb (ln a b x) (ln a b y) := by
  unfold ln
  rw [sh_sb]
  funext i
  simp only [ad, sb, sm]
  grind
theorem ln_sm (a b k : Rat) (x : Po) : ln a b (sm k x) = sm k (ln a b x) := by
  unfold ln
  rw [sh_sm]
  funext i
  simp only [ad, sm]
  grind
theorem ln_ln (a b e f : Rat) (x : Po) : ln a b (ln e f x) = ln e f (ln a b x) := by
  unfold ln
  rw [sh_ad, sh_ad, sh_sm, sh_sm, sh_sm, sh_sm]
  funext i
  simp only [ad, sm]
  grind
theorem ln_zr (a b : Rat) : ln a b zr = zr := by
  unfold ln
  rw [sh_zr, sm_zr, sm_zr, ad_zr]
theorem dq_ad (c a : Rat) (x y : Po) : dq c a (ad x y) = ad (dq c a x) (dq c a y) := by
  unfold dq
  rw [ln_ad, ln_ad]
  funext i
  simp only [ad, sm]
  grind
theorem dq_sb (c a : Rat) (x y : Po) : dq c a (sb x y) = sb (dq c a x) (dq c a y) := by
  unfold dq
  rw [ln_sb, ln_sb]
  funext i
  simp only [ad, sb, sm]
  grind
theorem dq_sm (c a k : Rat) (x : Po) : dq c a (sm k x) = sm k (dq c a x) := by
  unfold dq
  rw [ln_sm, ln_sm]
  funext i
  simp only [ad, sm]
  grind
theorem dq_ln (c a e f : Rat) (x : Po) : dq c a (ln e f x) = ln e f (dq c a x) := by
  unfold dq
  rw [ln_ln 1 c e f x, ln_ln 1 c e f, ln_ad, ln_sm]
theorem dq_zr (c a : Rat) : dq c a zr = zr := by
  unfold dq
  rw [ln_zr, ln_zr, sm_zr, ad_zr]
theorem Fs.dq {x : Po} (c a : Rat) (h : Fs x) : Fs (dq c a x) := ((h.ln 1 c).ln 1 c).ad (h.sm _)
theorem Mu.dq {x y : Po} (c a : Rat) (h : Mu x y) : Mu x (K.dq c a y) := ((h.ln 1 c).ln 1 c).add (h.sm _)
theorem ln_at (a b : Rat) (x : Po) (i : Nat) : ln a b x i = a * sh x i + b * x i := rfl
theorem dq_at (c a : Rat) (x : Po) (i : Nat) : dq c a x i = sh (sh x) i + 2 * c * sh x i + (c * c + a * a) * x i := by
  unfold dq ln
  rw [sh_ad, sh_sm, sh_sm]
  simp only [ad, sm]
  grind
theorem PL_ln {x : Po} {n : Nat} {a : Rat} (b : Rat) (ha : a ≠ 0) (h : PL x n) (hn : 0 < n) : PL (ln a b x) (n + 1) ∧ ln a b x n = a * x (n - 1) := by
  obtain ⟨j, rfl⟩ : ∃ j, n = j + 1 := ⟨n - 1, by omega⟩
  have e : ln a b x (j + 1) = a * x j := by
    rw [ln_at, sh_succ, h.1 (j + 1) (Nat.le_refl _)]
    grind
  refine ⟨PL_top (fun i hi => ?_) ?_, e⟩
  · obtain ⟨k, rfl⟩ : ∃ k, i = k + 1 := ⟨i - 1, by omega⟩
    rw [ln_at, sh_succ, h.1 k (by omega), h.1 (k + 1) (by omega)]
    grind
  · rw [e]
    intro k
    rcases Rat.mul_eq_zero.1 k with k | k
    · exact ha k
    · exact h.2 hn k
theorem len_ln {x : Po} {a : Rat} (b : Rat) (ha : a ≠ 0) (hx : Fs x) (h0 : x ≠ zr) : len (ln a b x) = len x + 1 ∧ lc (ln a b x) = a * lc x := by
  obtain ⟨h1, h2⟩ := PL_ln b ha hx.len (len_pos hx h0)
  have h3 := h1.len
  refine ⟨h3, ?_⟩
  unfold lc
  rw [h3]
  exact h2
theorem ln_ne {x : Po} {a : Rat} (b : Rat) (ha : a ≠ 0) (hx : Fs x) (h0 : x ≠ zr) : ln a b x ≠ zr := by
  intro e
  have h := (len_ln b ha hx h0).1
  rw [e, len_zr] at h
  omega
theorem len_ad {x y : Po} (hx : Fs x) (hy : Fs y) (h : len y < len x) : len (ad x y) = len x ∧ lc (ad x y) = lc x := by
  have e : ad x y (len x - 1) = lc x := by
    show x (len x - 1) + y (len x - 1) = x (len x - 1)
    rw [out hy (by omega)]
    grind
  have h1 : PL (ad x y) (len x) := by
    refine ⟨fun i hi => ?_, fun hp => ?_⟩
    · show x i + y i = 0
      rw [out hx hi, out hy (by omega)]
      grind
    · rw [e]
      exact hx.len.2 hp
  refine ⟨h1.len, ?_⟩
  show ad x y (len (ad x y) - 1) = _
  rw [h1.len, e]
theorem len_dq {x : Po} (c a : Rat) (hx : Fs x) (h0 : x ≠ zr) : len (dq c a x) = len x + 2 ∧ lc (dq c a x) = lc x := by
  have h1 := len_ln (a := 1) c (by decide) hx h0
  have h2 := len_ln (a := 1) c (by decide) (hx.ln 1 c) (ln_ne c (by decide) hx h0)
  have h3 : len (sm (a * a) x) ≤ len x := len_le (hx.sm _) (fun i hi => by show a * a * x i = 0; rw [out hx hi, Rat.mul_zero])
  have h4 := len_ad ((hx.ln 1 c).ln 1 c) (hx.sm (a * a)) (by omega)
  unfold dq
  refine ⟨by omega, ?_⟩
  rw [h4.2, h2.2, h1.2]
  grind
theorem dq_ne {x : Po} (c a : Rat) (hx : Fs x) (h0 : x ≠ zr) : dq c a x ≠ zr := by
  intro e
  have h := (len_dq c a hx h0).1
  rw [e, len_zr] at h
  omega
structure Ind (c a : Rat) (J e : Po → Po → Int) : Prop where
  add : ∀ x y z, Fs x → Fs y → Fs z → Mu x (sb z y) → J x z = J x y
  smr : ∀ x y k, Fs x → Fs y → J x (sm k y) = sgn1 k * J x y
  turn : ∀ x y, Fs x → Fs y → x ≠ zr → y ≠ zr → J x y + J y x = e x y
  comm : ∀ x y, e x y = e y x
  esm : ∀ x y k, Fs x → Fs y → e x (sm k y) = sgn1 k * e x y
  edq : ∀ x y, Fs x → Fs y → x ≠ zr → e (dq c a x) y = e x y
  tri : ∀ u z, Fs u → Fs z → e (ad u z) u + e (ad u z) z = e u z
  q3 : ∀ y z α β d, Fs y → Fs z → y ≠ zr → len z < len y → α ≠ 0 → d = (c - β / α) * (c - β / α) + a * a → d ≠ 0 →
    e y (sb (ln α β y) z) + e y z = e (sb (ln α β y) z) (ad (sm d y) (ln α⁻¹ (α⁻¹ * (2 * c - β / α)) z)) + e (ad (sm d y) (ln α⁻¹ (α⁻¹ * (2 * c - β / α)) z)) z
  q4 : a = 0 → ∀ y z α, Fs y → Fs z → y ≠ zr → len z < len y → α ≠ 0 → e y (sb (ln α (α * c) y) z) + e y z = sgn1 α * e (sb (ln α (α * c) y) z) (ln 1 c z)
  q5 : a = 0 → ∀ y r ρ, Fs y → Fs r → y ≠ zr → len r < len y → ρ ≠ 0 → e (ln 1 c y) (ad (sm ρ y) (ln 1 c r)) + sgn1 ρ * e (ad (sm ρ y) (ln 1 c r)) r = e y r
theorem sgn_unit {k : Rat} (h : k ≠ 0) {x y : Int} (e : sgn1 k * x = y) : x = sgn1 k * y := by
  rw [← e, ← Int.mul_assoc, sgn_sq h, Int.one_mul]
theorem sub_ne {u z : Po} (hu : Fs u) (hz : Fs z) (h : len z < len u) : sb u z ≠ zr := by
  intro e
  have : u = z := by
    funext i
    have := congrFun e i
    simp only [sb, zr] at this
    grind
  rw [this] at h
  omega
theorem parted (c a : Rat) {x y : Po} (hx : Fs x) (hy : Fs y) (hy0 : y ≠ zr) : ∃ α β z, Fs z ∧ len z < len y ∧ Mu (dq c a y) (sb x (sb (ln α β y) z)) := by
  obtain ⟨r, fr, hr, mr⟩ := rm_ex (hy.dq c a) (dq_ne c a hy hy0) _ x hx (Nat.le_refl _)
  rw [(len_dq c a hy hy0).1] at hr
  have hp := len_pos hy hy0
  have hl := lc_ne hy hy0
  obtain ⟨n, hn⟩ : ∃ n, len y = n + 1 := ⟨len y - 1, by omega⟩
  have hY : y n = lc y := by unfold lc; rw [hn]; rfl
  obtain ⟨α, hα⟩ : ∃ α, α = r (n + 1) / lc y := ⟨_, rfl⟩
  have ha : α * lc y = r (n + 1) := by rw [hα]; exact Rat.div_mul_cancel hl
  obtain ⟨β, hβ⟩ : ∃ β, β = (r n - α * sh y n) / lc y := ⟨_, rfl⟩
  have hb : β * lc y = r n - α * sh y n := by rw [hβ]; exact Rat.div_mul_cancel hl
  obtain ⟨z, hz⟩ : ∃ z, z = sb (ln α β y) r := ⟨_, rfl⟩
  have fz : Fs z := by rw [hz]; exact (hy.ln α β).sb fr
  refine ⟨α, β, z, fz, ?_, ?_⟩
  · have : len z ≤ n := by
      refine len_le fz (fun i hi => ?_)
      rw [hz]
      show ln α β y i - r i = 0
      rw [ln_at]
      by_cases e1 : i = n
      · subst e1
        rw [hY]
        grind
      · obtain ⟨j, rfl⟩ : ∃ j, i = j + 1 := ⟨i - 1, by omega⟩
        rw [sh_succ]
        by_cases e2 : j = n
        · subst e2
          rw [hY, out hy (show len y ≤ j + 1 by omega), ha]
          grind
        · rw [out hy (show len y ≤ j by omega), out hy (show len y ≤ j + 1 by omega), out fr (show len r ≤ j + 1 by omega)]
          grind
    omega
  · have e1 : sb (ln α β y) z = r := by
      rw [hz]
      funext i
      simp only [sb]
      grind
    rw [e1]
    exact mr
theorem split1 {c a α β d : Rat} (hα : α ≠ 0) (hd : d = (c - β / α) * (c - β / α) + a * a) (y z : Po) :
    sb (dq c a y) (ad (sm d y) (ln α⁻¹ (α⁻¹ * (2 * c - β / α)) z)) = ln α⁻¹ (α⁻¹ * (2 * c - β / α)) (sb (ln α β y) z) := by
  have hi := Rat.inv_mul_cancel α hα
  obtain ⟨k, hk⟩ : ∃ k, k = β / α := ⟨_, rfl⟩
  have hk2 : α⁻¹ * β = k := by rw [hk, Rat.div_def]; grind
  rw [← hk] at hd ⊢
  rw [ln_sb]
  funext i
  show dq c a y i - (d * y i + ln α⁻¹ (α⁻¹ * (2 * c - k)) z i) = ln α⁻¹ (α⁻¹ * (2 * c - k)) (ln α β y) i - ln α⁻¹ (α⁻¹ * (2 * c - k)) z i
  rw [dq_at]
  have e1 : ln α⁻¹ (α⁻¹ * (2 * c - k)) (ln α β y) i = sh (sh y) i + 2 * c * sh y i + k * (2 * c - k) * y i := by
    unfold ln
    rw [sh_ad, sh_sm, sh_sm]
    simp only [ad, sm]
    grind
  rw [e1, hd]
  grind
theorem split2 {c a α β d : Rat} (hα : α ≠ 0) (hd : d = (c - β / α) * (c - β / α) + a * a) (y z : Po) :
    sb (sm d (sb (ln α β y) z)) (sm (-1) (dq c a z)) = ln α β (ad (sm d y) (ln α⁻¹ (α⁻¹ * (2 * c - β / α)) z)) := by
  have hi := Rat.inv_mul_cancel α hα
  obtain ⟨k, hk⟩ : ∃ k, k = β / α := ⟨_, rfl⟩
  have hk2 : α⁻¹ * β = k := by rw [hk, Rat.div_def]; grind
  rw [← hk] at hd ⊢
  rw [ln_ad, ln_sm]
  funext i
  show d * (ln α β y i - z i) - (-1) * dq c a z i = d * ln α β y i + ln α β (ln α⁻¹ (α⁻¹ * (2 * c - k)) z) i
  rw [dq_at]
  have e1 : ln α β (ln α⁻¹ (α⁻¹ * (2 * c - k)) z) i = sh (sh z) i + 2 * c * sh z i + k * (2 * c - k) * z i := by
    unfold ln
    rw [sh_ad, sh_sm, sh_sm]
    simp only [ad, sm]
    grind
  rw [e1, hd]
  grind
theorem Mu.lnmap {x y : Po} (a b : Rat) (h : Mu x y) : Mu (K.ln a b x) (K.ln a b y) := by
  obtain ⟨q, rfl⟩ := h
  induction q with
  | nil => simp only [K.mulL]; rw [ln_zr]; exact .zero _
  | cons c q ih =>
    simp only [K.mulL]
    have e1 : K.ln a b (K.sh (K.mulL q x)) = K.sh (K.ln a b (K.mulL q x)) := by
      unfold K.ln
      rw [sh_ad, sh_sm, sh_sm]
    rw [ln_ad, ln_sm, e1]
    exact ((Mu.self _).sm c).add ih.sh
section
variable {c a : Rat} {J e : Po → Po → Int}
theorem Ind.nil (I : Ind c a J e) {x : Po} (hx : Fs x) : J x zr = 0 := by
  have := I.smr x zr 0 hx .zr
  rw [sm_zr, sgn_zero, Int.zero_mul] at this
  exact this
theorem Ind.enil (I : Ind c a J e) {x : Po} (hx : Fs x) : e x zr = 0 := by
  have := I.esm x zr 0 hx .zr
  rw [sm_zr, sgn_zero, Int.zero_mul] at this
  exact this
theorem Ind.mul (I : Ind c a J e) {x y : Po} (hx : Fs x) (h : Mu x y) : J x y = 0 := by
  rw [I.add x zr y hx .zr (hx.mu h) (by rw [sb_zr]; exact h), I.nil hx]
theorem Ind.neg (I : Ind c a J e) {x y : Po} (hx : Fs x) (hy : Fs y) : J x (sm (-1) y) = -J x y := by
  rw [I.smr x y _ hx hy]
  have : sgn1 (-1) = -1 := rfl
  rw [this]
  omega
theorem Ind.both (I : Ind c a J e) : ∀ n, (∀ y x, Fs y → Fs x → y ≠ zr → len y ≤ n → J (dq c a y) x = J y x) ∧ (a = 0 → ∀ y x ρ, Fs y → Fs x → y ≠ zr → ρ ≠ 0 → len y ≤ n → J (ln 1 c y) (ad (sm ρ y) (ln 1 c x)) = J y x) := by
  intro n
  induction n with
  | zero =>
    refine ⟨fun y x hy hx h0 hn => ?_, fun ha y x ρ hy hx h0 hρ hn => ?_⟩
    · exact absurd (len_pos hy h0) (by omega)
    · exact absurd (len_pos hy h0) (by omega)
  | succ n ih =>
    obtain ⟨ihA, ihB⟩ := ih
    have A : ∀ y x, Fs y → Fs x → y ≠ zr → len y ≤ n + 1 → J (dq c a y) x = J y x := by
      intro y x hy hx hy0 hn
      obtain ⟨α, β, z, fz, hz, mz⟩ := parted c a hx hy hy0
      have fu : Fs (sb (ln α β y) z) := (hy.ln α β).sb fz
      have hDy := hy.dq c a
      have hD0 := dq_ne c a hy hy0
      rw [I.add (dq c a y) (sb (ln α β y) z) x hDy fu hx mz, I.add y (sb (ln α β y) z) x hy fu hx ((Mu.dq c a (Mu.self y)).trans mz)]
      have e0 : J y (sb (ln α β y) z) = -J y z := by
        rw [← I.neg hy fz]
        refine I.add y _ _ hy (fz.sm _) fu ?_
        have e1 : sb (sb (ln α β y) z) (sm (-1) z) = ln α β y := by
          funext i
          simp only [sb, sm]
          grind
        rw [e1]
        exact (Mu.self y).ln α β
      rw [e0]
      by_cases hα : α = 0
      · by_cases hβ : β = 0
        · -- nothing of y
          have e1 : sb (ln α β y) z = sm (-1) z := by
            funext i
            show ln α β y i - z i = -1 * z i
            rw [ln_at, hα, hβ]
            grind
          rw [e1, I.neg hDy fz]
          by_cases hz0 : z = zr
          · rw [hz0, I.nil hDy, I.nil hy]
          · have t1 := I.turn (dq c a y) z hDy fz hD0 hz0
            have t2 := I.turn y z hy fz hy0 hz0
            rw [I.edq y z hy fz hy0] at t1
            obtain ⟨s, fs, hs, ms⟩ := rm_ex fz hz0 _ y hy (Nat.le_refl _)
            have h1 : J z (dq c a y) = J z (dq c a s) := I.add z _ _ fz (fs.dq c a) hDy (by rw [← dq_sb]; exact ms.dq c a)
            have h2 : J z y = J z s := I.add z _ _ fz fs hy ms
            have h3 : J z (dq c a s) = J z s := by
              by_cases hs0 : s = zr
              · rw [hs0, dq_zr]
              · have t3 := I.turn z (dq c a s) fz (fs.dq c a) hz0 (dq_ne c a fs hs0)
                have t4 := I.turn z s fz fs hz0 hs0
                rw [I.comm, I.edq s z fs fz hs0, I.comm, ihA s z fs fz hs0 (by omega)] at t3
                omega
            omega
        · -- a number times y
          have e1 : sb (ln α β y) z = sb (sm β y) z := by
            funext i
            show ln α β y i - z i = β * y i - z i
            rw [ln_at, hα]
            grind
          rw [e1] at fu ⊢
          obtain ⟨u, hu⟩ : ∃ u, u = sb (sm β y) z := ⟨_, rfl⟩
          rw [← hu] at fu ⊢
          have hu0 : u ≠ zr := by rw [hu]; exact sub_ne (hy.sm β) fz (by rw [len_sm hy hβ]; exact hz)
          have t1 := I.turn (dq c a y) u hDy fu hD0 hu0
          rw [I.edq y u hy fu hy0] at t1
          have euz : ad u z = sm β y := by rw [hu]; funext i; simp only [ad, sb]; grind
          have h1 : sgn1 β * J u (dq c a y) = J u (dq c a z) := by
            rw [← I.smr u _ β fu hDy]
            refine I.add u _ _ fu (fz.dq c a) (hDy.sm β) ?_
            rw [← dq_sm, ← dq_sb]
            have e2 : sb (sm β y) z = u := hu.symm
            rw [e2]
            exact (Mu.self u).dq c a
          have h1' := sgn_unit hβ h1
          have tr := I.tri u z fu fz
          rw [euz, I.comm (sm β y) u, I.comm (sm β y) z, I.esm u y β fu hy, I.esm z y β fz hy, ← Int.mul_add] at tr
          have tr' := sgn_unit hβ tr
          rw [I.comm u y, I.comm z y] at tr'
          by_cases hz0 : z = zr
          · have hJ : J u (dq c a y) = 0 := by rw [h1', hz0, dq_zr, I.nil fu, Int.mul_zero]
            have hJ2 : J y z = 0 := by rw [hz0]; exact I.nil hy
            have he : e y z = 0 := by rw [hz0]; exact I.enil hy
            have he2 : e u z = 0 := by rw [hz0]; exact I.enil fu
            rw [he2, Int.mul_zero] at tr'
            omega
          · have t2 := I.turn y z hy fz hy0 hz0
            have t3 := I.turn u (dq c a z) fu (fz.dq c a) hu0 (dq_ne c a fz hz0)
            rw [I.comm, I.edq z u fz fu hz0, I.comm, ihA z u fz fu hz0 (by omega)] at t3
            have h2 : J z u = sgn1 β * J z y := by
              rw [← I.smr z y β fz hy]
              have : J z (sm β y) = J z u := I.add z _ _ fz fu (hy.sm β) (by rw [← euz]; have e3 : sb (ad u z) u = z := by { funext i; simp only [sb, ad]; grind }; rw [e3]; exact .self z)
              exact this.symm
            have h3 : J u (dq c a z) = e u z - sgn1 β * J z y := by rw [← h2]; omega
            rw [h3, Int.mul_sub, ← Int.mul_assoc, sgn_sq hβ, Int.one_mul] at h1'
            omega
      · -- a multiple of y by something in t
        obtain ⟨u, hu⟩ : ∃ u, u = sb (ln α β y) z := ⟨_, rfl⟩
        have hu0 : u ≠ zr := by rw [hu]; exact sub_ne (hy.ln α β) fz (by rw [(len_ln β hα hy hy0).1]; omega)
        obtain ⟨d, hd⟩ : ∃ d, d = (c - β / α) * (c - β / α) + a * a := ⟨_, rfl⟩
        by_cases hd0 : d = 0
        · -- the square is 0 there
          have hsq : ∀ q : Rat, 0 ≤ q * q := fun q => by
            rcases Rat.le_total (a := 0) (b := q) with k | k
            · exact Rat.mul_nonneg k k
            · have := Rat.mul_nonneg (Rat.neg_le_neg k) (Rat.neg_le_neg k)
              grind
          have s1 := hsq a
          have s2 := hsq (c - β / α)
          have ha : a = 0 := by
            have : a * a = 0 := by grind
            rcases Rat.mul_eq_zero.1 this with k | k <;> exact k
          have hc : c - β / α = 0 := by
            have : (c - β / α) * (c - β / α) = 0 := by grind
            rcases Rat.mul_eq_zero.1 this with k | k <;> exact k
          have hβ : β = α * c := by
            have : β / α * α = β := Rat.div_mul_cancel hα
            grind
          have q4 := I.q4 ha y z α hy fz hy0 hz hα
          rw [← hβ, ← hu] at q4
          rw [← hu] at fu ⊢
          have t1 := I.turn (dq c a y) u hDy fu hD0 hu0
          rw [I.edq y u hy fu hy0] at t1
          -- D y is (t + c) / a times u + z
          have h1 : sgn1 α * J u (dq c a y) = J u (ln 1 c z) := by
            rw [← I.smr u _ α fu hDy]
            refine I.add u _ _ fu (fz.ln 1 c) (hDy.sm α) ?_
            have e2 : sb (sm α (dq c a y)) (ln 1 c z) = ln 1 c u := by
              rw [hu, ln_sb]
              funext i
              show α * dq c a y i - ln 1 c z i = ln 1 c (ln α β y) i - ln 1 c z i
              have e3 : ln 1 c (ln α β y) i = α * dq c a y i := by
                rw [dq_at, hβ, ha]
                unfold ln
                rw [sh_ad, sh_sm, sh_sm]
                simp only [ad, sm]
                grind
              rw [e3]
            rw [e2]
            exact (Mu.self u).ln 1 c
          have h1' := sgn_unit hα h1
          by_cases hz0 : z = zr
          · have hJ : J u (dq c a y) = 0 := by rw [h1', hz0, ln_zr, I.nil fu, Int.mul_zero]
            have hJ2 : J y z = 0 := by rw [hz0]; exact I.nil hy
            have he : e y z = 0 := by rw [hz0]; exact I.enil hy
            have he2 : e u (ln 1 c z) = 0 := by rw [hz0, ln_zr]; exact I.enil fu
            rw [he2, Int.mul_zero] at q4
            omega
          · have t2 := I.turn y z hy fz hy0 hz0
            have t3 := I.turn u (ln 1 c z) fu (fz.ln 1 c) hu0 (ln_ne c (by decide) fz hz0)
            have b1 := ihB ha z (sm α y) (-1) fz (hy.sm α) hz0 (by decide) (by omega)
            have e3 : ad (sm (-1) z) (ln 1 c (sm α y)) = u := by
              rw [hu, ln_sm]
              funext i
              show -1 * z i + α * ln 1 c y i = ln α β y i - z i
              rw [ln_at, ln_at, hβ]
              grind
            rw [e3, I.smr z y α fz hy] at b1
            have h3 : J u (ln 1 c z) = e u (ln 1 c z) - sgn1 α * J z y := by omega
            rw [h3, Int.mul_sub, ← Int.mul_assoc, sgn_sq hα, Int.one_mul] at h1'
            omega
        · obtain ⟨v, hv⟩ : ∃ v, v = ad (sm d y) (ln α⁻¹ (α⁻¹ * (2 * c - β / α)) z) := ⟨_, rfl⟩
          have fv : Fs v := by rw [hv]; exact (hy.sm d).ad (fz.ln _ _)
          have q3 := I.q3 y z α β d hy fz hy0 hz hα hd hd0
          have s1 := split1 hα hd y z
          have s2 := split2 hα hd y z
          rw [← hu, ← hv] at q3 s1 s2
          rw [← hu] at fu ⊢
          have dpos : sgn1 d = 1 := by
            refine sgn_pos ?_
            have hsq : ∀ q : Rat, 0 ≤ q * q := fun q => by
              rcases Rat.le_total (a := 0) (b := q) with k | k
              · exact Rat.mul_nonneg k k
              · have := Rat.mul_nonneg (Rat.neg_le_neg k) (Rat.neg_le_neg k)
                grind
            have s1 := hsq a
            have s2 := hsq (c - β / α)
            grind
          have t1 := I.turn (dq c a y) u hDy fu hD0 hu0
          rw [I.edq y u hy fu hy0] at t1
          have h1 : J u (dq c a y) = J u v := I.add u _ _ fu fv hDy (by rw [s1]; exact (Mu.self u).ln _ _)
          have h4 : J z v = J z y := by
            have k1 : J z v = J z (sm d y) := I.add z _ _ fz (hy.sm d) fv (by
              have e3 : sb v (sm d y) = ln α⁻¹ (α⁻¹ * (2 * c - β / α)) z := by rw [hv]; funext i; simp only [sb, ad]; grind
              rw [e3]
              exact (Mu.self z).ln _ _)
            rw [k1, I.smr z y d fz hy, dpos, Int.one_mul]
          by_cases hv0 : v = zr
          · have hJ : J u v = 0 := by rw [hv0]; exact I.nil fu
            have e1 : e u v = 0 := by rw [hv0]; exact I.enil fu
            have e2 : e v z = 0 := by rw [I.comm, hv0]; exact I.enil fz
            have hJ2 : J z v = 0 := by rw [hv0]; exact I.nil fz
            by_cases hz0 : z = zr
            · have hJ3 : J y z = 0 := by rw [hz0]; exact I.nil hy
              have e4 : e y z = 0 := by rw [hz0]; exact I.enil hy
              omega
            · have t2 := I.turn y z hy fz hy0 hz0
              omega
          · have t3 := I.turn u v fu fv hu0 hv0
            have h2 : J v u = -J v (dq c a z) := by
              have k1 : J v (sm d u) = J v (sm (-1) (dq c a z)) := I.add v _ _ fv ((fz.dq c a).sm _) (fu.sm d) (by rw [s2]; exact (Mu.self v).ln _ _)
              rw [I.smr v u d fv fu, dpos, Int.one_mul, I.neg fv (fz.dq c a)] at k1
              exact k1
            by_cases hz0 : z = zr
            · have hJ3 : J y z = 0 := by rw [hz0]; exact I.nil hy
              have e4 : e y z = 0 := by rw [hz0]; exact I.enil hy
              have e5 : e v z = 0 := by rw [hz0]; exact I.enil fv
              have h5 : J v (dq c a z) = 0 := by rw [hz0, dq_zr]; exact I.nil fv
              omega
            · have t2 := I.turn y z hy fz hy0 hz0
              have t4 := I.turn v (dq c a z) fv (fz.dq c a) hv0 (dq_ne c a fz hz0)
              rw [I.comm, I.edq z v fz fv hz0, I.comm, ihA z v fz fv hz0 (by omega)] at t4
              omega
    refine ⟨A, fun ha y x ρ hy hx hy0 hρ hn => ?_⟩
    obtain ⟨r, fr, hr, mr⟩ := rm_ex hy hy0 _ x hx (Nat.le_refl _)
    have fl := hy.ln 1 c
    have hl0 := ln_ne (a := 1) c (by decide) hy hy0
    have f1 : ∀ w, Fs w → Fs (ad (sm ρ y) (ln 1 c w)) := fun w hw => (hy.sm ρ).ad (hw.ln 1 c)
    rw [I.add (ln 1 c y) (ad (sm ρ y) (ln 1 c r)) _ fl (f1 r fr) (f1 x hx) (by
      have e1 : sb (ad (sm ρ y) (ln 1 c x)) (ad (sm ρ y) (ln 1 c r)) = ln 1 c (sb x r) := by
        rw [ln_sb]
        funext i
        simp only [sb, ad]
        grind
      rw [e1]
      exact mr.lnmap 1 c), I.add y r x hy fr hx mr]
    have q5 := I.q5 ha y r ρ hy fr hy0 hr hρ
    obtain ⟨u, hu⟩ : ∃ u, u = ad (sm ρ y) (ln 1 c r) := ⟨_, rfl⟩
    have fu : Fs u := by rw [hu]; exact f1 r fr
    rw [← hu] at q5 ⊢
    have h1 : sgn1 ρ * J u (ln 1 c y) = -J u (dq c a r) := by
      rw [← I.smr u _ ρ fu fl, ← I.neg fu (fr.dq c a)]
      refine I.add u _ _ fu ((fr.dq c a).sm _) (fl.sm ρ) ?_
      have e2 : sb (sm ρ (ln 1 c y)) (sm (-1) (dq c a r)) = ln 1 c u := by
        rw [hu, ln_ad, ln_sm]
        funext i
        show ρ * ln 1 c y i - -1 * dq c a r i = ρ * ln 1 c y i + ln 1 c (ln 1 c r) i
        have e3 : dq c a r i = ln 1 c (ln 1 c r) i := by
          unfold dq
          show ln 1 c (ln 1 c r) i + a * a * r i = _
          rw [ha]
          grind
        rw [e3]
        grind
      rw [e2]
      exact (Mu.self u).ln 1 c
    have h1' := sgn_unit hρ h1
    by_cases hr0 : r = zr
    · have hu2 : u = sm ρ y := by rw [hu, hr0, ln_zr, ad_zr]
      have hu0 : u ≠ zr := by rw [hu2]; exact sm_ne hρ hy0
      have t1 := I.turn (ln 1 c y) u fl fu hl0 hu0
      have k1 : J u (dq c a r) = 0 := by rw [hr0, dq_zr]; exact I.nil fu
      have k2 : J y r = 0 := by rw [hr0]; exact I.nil hy
      have k3 : e u r = 0 := by rw [hr0]; exact I.enil fu
      have k4 : e y r = 0 := by rw [hr0]; exact I.enil hy
      rw [k1] at h1'
      rw [k3, Int.mul_zero] at q5
      have k5 : J u (ln 1 c y) = 0 := by rw [h1']; simp
      omega
    · have t2 := I.turn y r hy fr hy0 hr0
      by_cases hu0 : u = zr
      · have k1 : J (ln 1 c y) u = 0 := by rw [hu0]; exact I.nil fl
        have k2 : e (ln 1 c y) u = 0 := by rw [hu0]; exact I.enil fl
        have k3 : e u r = 0 := by rw [I.comm, hu0]; exact I.enil fr
        rw [k3, Int.mul_zero] at q5
        have k4 : J r y = 0 := by
          have : sgn1 ρ * J r y = 0 := by
            rw [← I.smr r y ρ fr hy]
            refine I.mul fr ?_
            have e4 : sm ρ y = sm (-1) (ln 1 c r) := by
              funext i
              have := congrFun (hu.symm.trans hu0) i
              simp only [ad, zr] at this
              show sm ρ y i = -1 * ln 1 c r i
              grind
            rw [e4]
            exact ((Mu.self r).ln 1 c).sm _
          rw [sgn_unit hρ this, Int.mul_zero]
        omega
      · have t1 := I.turn (ln 1 c y) u fl fu hl0 hu0
        have t3 := I.turn u (dq c a r) fu (fr.dq c a) hu0 (dq_ne c a fr hr0)
        rw [I.comm, I.edq r u fr fu hr0, I.comm, ihA r u fr fu hr0 (by omega)] at t3
        have h2 : J r u = sgn1 ρ * J r y := by
          rw [← I.smr r y ρ fr hy]
          refine I.add r _ _ fr (hy.sm ρ) fu ?_
          have e5 : sb u (sm ρ y) = ln 1 c r := by rw [hu]; funext i; simp only [sb, ad]; grind
          rw [e5]
          exact (Mu.self r).ln 1 c
        have h3 : J u (dq c a r) = e u r - sgn1 ρ * J r y := by rw [← h2]; omega
        rw [h3, Int.neg_sub, Int.mul_sub, ← Int.mul_assoc, sgn_sq hρ, Int.one_mul] at h1'
        omega
end
end Go.Proofs.YtklkpkkjakllfaaGreatDoor.K
