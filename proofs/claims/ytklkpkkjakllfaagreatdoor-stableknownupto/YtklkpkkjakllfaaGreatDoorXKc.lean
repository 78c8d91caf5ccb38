/- t + c and (t + c) (t + c) + a a as factors: what they divide. -/
import Derived.Test.YtklkpkkjakllfaaGreatDoorXKb
set_option linter.unusedVariables false
set_option linter.unusedSimpArgs false
namespace Go.Proofs.YtklkpkkjakllfaaGreatDoor.K
theorem mulL_ad (q : List Rat) (x y : Po) : mulL q (ad x y) = ad (mulL q x) (mulL q y) := by
  induction q with
  | nil => simp only [mulL]; rw [ad_zr]
  | cons c q ih =>
    simp only [mulL]
    rw [ih, sh_ad]
    funext i
    simp only [ad, sm]
    grind
theorem mulL_smx (q : List Rat) (k : Rat) (x : Po) : mulL q (sm k x) = sm k (mulL q x) := by
  induction q with
  | nil => simp only [mulL]; rw [sm_zr]
  | cons c q ih =>
    simp only [mulL]
    rw [ih, sh_sm]
    funext i
    simp only [ad, sm]
    grind
theorem mulL_sh (q : List Rat) (x : Po) : mulL q (sh x) = sh (mulL q x) := by
  induction q with
  | nil => simp only [mulL]; rw [sh_zr]
  | cons c q ih =>
    simp only [mulL]
    rw [ih, sh_ad, sh_sm]
theorem mulL_comm (p q : List Rat) (x : Po) : mulL p (mulL q x) = mulL q (mulL p x) := by
  induction p with
  | nil =>
    simp only [mulL]
    have := mulL_smx q 0 x
    have e : ∀ y, sm 0 y = zr := fun y => by funext i; simp only [sm, zr]; exact Rat.zero_mul _
    rw [e, e] at this
    exact this.symm
  | cons c p ih =>
    simp only [mulL]
    rw [ih, mulL_ad, mulL_smx, mulL_sh]
theorem mulL_ln (q : List Rat) (e f : Rat) (x : Po) : mulL q (ln e f x) = ln e f (mulL q x) := by
  unfold ln
  rw [mulL_ad, mulL_smx, mulL_smx, mulL_sh]
theorem mulL_dq (q : List Rat) (c a : Rat) (x : Po) : mulL q (dq c a x) = dq c a (mulL q x) := by
  unfold dq
  rw [mulL_ad, mulL_smx, mulL_ln, mulL_ln]
theorem fs_on {x : Po} (h : Fs x) : ∃ q, x = mulL q on := by
  obtain ⟨n, hn⟩ := h
  exact on_mu n x hn
def mp (p : Rat × Rat) (x : Po) : Po := if p.2 = 0 then ln 1 p.1 x else dq p.1 p.2 x
def mk (p : Rat × Rat) : Nat := if p.2 = 0 then 1 else 2
theorem mp_l {p : Rat × Rat} (h : p.2 = 0) (x : Po) : mp p x = ln 1 p.1 x := by unfold mp; rw [if_pos h]
theorem mp_d {p : Rat × Rat} (h : p.2 ≠ 0) (x : Po) : mp p x = dq p.1 p.2 x := by unfold mp; rw [if_neg h]
theorem mp_ad (p : Rat × Rat) (x y : Po) : mp p (ad x y) = ad (mp p x) (mp p y) := by
  by_cases h : p.2 = 0
  · rw [mp_l h, mp_l h, mp_l h, ln_ad]
  · rw [mp_d h, mp_d h, mp_d h, dq_ad]
theorem mp_sb (p : Rat × Rat) (x y : Po) : mp p (sb x y) = sb (mp p x) (mp p y) := by
  by_cases h : p.2 = 0
  · rw [mp_l h, mp_l h, mp_l h, ln_sb]
  · rw [mp_d h, mp_d h, mp_d h, dq_sb]
theorem mp_sm (p : Rat × Rat) (k : Rat) (x : Po) : mp p (sm k x) = sm k (mp p x) := by
  by_cases h : p.2 = 0
  · rw [mp_l h, mp_l h, ln_sm]
  · rw [mp_d h, mp_d h, dq_sm]
theorem mp_ln (p : Rat × Rat) (e f : Rat) (x : Po) : mp p (ln e f x) = ln e f (mp p x) := by
  by_cases h : p.2 = 0
  · rw [mp_l h, mp_l h, ln_ln]
  · rw [mp_d h, mp_d h, dq_ln]
theorem mp_mulL (p : Rat × Rat) (q : List Rat) (x : Po) : mulL q (mp p x) = mp p (mulL q x) := by
  by_cases h : p.2 = 0
  · rw [mp_l h, mp_l h, mulL_ln]
  · rw [mp_d h, mp_d h, mulL_dq]
theorem mp_zr (p : Rat × Rat) : mp p zr = zr := by
  by_cases h : p.2 = 0
  · rw [mp_l h, ln_zr]
  · rw [mp_d h, dq_zr]
theorem mp_dq (p : Rat × Rat) (c a : Rat) (x : Po) : mp p (dq c a x) = dq c a (mp p x) := by
  unfold dq
  rw [mp_ad, mp_sm, mp_ln, mp_ln]
theorem mp_mp (p r : Rat × Rat) (x : Po) : mp p (mp r x) = mp r (mp p x) := by
  by_cases h : r.2 = 0
  · rw [mp_l h, mp_l h, mp_ln]
  · rw [mp_d h, mp_d h, mp_dq]
theorem Fs.mp {x : Po} (p : Rat × Rat) (h : Fs x) : Fs (mp p x) := by
  by_cases k : p.2 = 0
  · rw [mp_l k]; exact h.ln _ _
  · rw [mp_d k]; exact h.dq _ _
theorem mp_len (p : Rat × Rat) {x : Po} (h : Fs x) (h0 : x ≠ zr) : len (mp p x) = len x + mk p ∧ lc (mp p x) = lc x := by
  unfold mk
  by_cases k : p.2 = 0
  · rw [mp_l k, if_pos k]
    obtain ⟨h1, h2⟩ := len_ln (a := 1) p.1 (by decide) h h0
    exact ⟨h1, by rw [h2, Rat.one_mul]⟩
  · rw [mp_d k, if_neg k]
    exact len_dq _ _ h h0
theorem mk_pos (p : Rat × Rat) : 0 < mk p := by unfold mk; split <;> omega
theorem mp_ne (p : Rat × Rat) {x : Po} (h : Fs x) (h0 : x ≠ zr) : mp p x ≠ zr := by
  intro e
  have := (mp_len p h h0).1
  rw [e, len_zr] at this
  have := mk_pos p
  omega
theorem sb_eq {x y : Po} (h : sb x y = zr) : x = y := by
  funext i
  have := congrFun h i
  simp only [sb, zr] at this
  grind
theorem mp_inj (p : Rat × Rat) {x y : Po} (hx : Fs x) (hy : Fs y) (h : mp p x = mp p y) : x = y := by
  refine Classical.byContradiction fun k => ?_
  have h1 : sb x y ≠ zr := fun e => k (sb_eq e)
  have h2 := mp_ne p (hx.sb hy) h1
  rw [mp_sb, h, sb_self] at h2
  exact h2 rfl
theorem Mu.mp {x y : Po} (p : Rat × Rat) (h : Mu x y) : Mu (K.mp p x) (K.mp p y) := by
  obtain ⟨q, rfl⟩ := h
  exact ⟨q, (mp_mulL p q x).symm⟩
theorem mu_mp {p : Rat × Rat} {x y : Po} (h : Mu (mp p x) y) : ∃ z, Mu x z ∧ y = mp p z := by
  obtain ⟨q, rfl⟩ := h
  exact ⟨mulL q x, ⟨q, rfl⟩, mp_mulL p q x⟩
def pd (p : Rat × Rat) (x : Po) : Prop := ∃ y, Fs y ∧ x = mp p y
theorem pd.ad {p : Rat × Rat} {x y : Po} (h : pd p x) (k : pd p y) : pd p (ad x y) := by
  obtain ⟨u, hu, rfl⟩ := h
  obtain ⟨v, hv, rfl⟩ := k
  exact ⟨K.ad u v, hu.ad hv, (mp_ad _ _ _).symm⟩
theorem pd.sm {p : Rat × Rat} {x : Po} (k : Rat) (h : pd p x) : pd p (sm k x) := by
  obtain ⟨u, hu, rfl⟩ := h
  exact ⟨K.sm k u, hu.sm k, (mp_sm _ _ _).symm⟩
theorem pd.ln {p : Rat × Rat} {x : Po} (e f : Rat) (h : pd p x) : pd p (ln e f x) := by
  obtain ⟨u, hu, rfl⟩ := h
  exact ⟨K.ln e f u, hu.ln e f, (mp_ln _ _ _ _).symm⟩
theorem pd.of_sm {p : Rat × Rat} {x : Po} {k : Rat} (hk : k ≠ 0) (h : pd p (K.sm k x)) : pd p x := by
  have := h.sm k⁻¹
  rw [sm_sm, Rat.inv_mul_cancel k hk, sm_one] at this
  exact this
theorem pd.self (p : Rat × Rat) {x : Po} (h : Fs x) : pd p (mp p x) := ⟨x, h, rfl⟩
theorem pd.mp {p : Rat × Rat} {x : Po} (r : Rat × Rat) (h : pd p x) : pd p (mp r x) := by
  obtain ⟨u, hu, rfl⟩ := h
  exact ⟨K.mp r u, hu.mp r, mp_mp _ _ _⟩
theorem pd.mu {p : Rat × Rat} {x y : Po} (h : pd p x) (k : Mu x y) : pd p y := by
  obtain ⟨u, hu, rfl⟩ := h
  obtain ⟨z, hz, rfl⟩ := mu_mp k
  exact ⟨z, hu.mu hz, rfl⟩
theorem pd_ln {p : Rat × Rat} {x : Po} {e f : Rat} (hx : Fs x) (h : pd p (ln e f x)) (h1 : p.2 = 0 → f - e * p.1 ≠ 0) (h2 : p.2 ≠ 0 → e ≠ 0 ∨ f ≠ 0) : pd p x := by
  obtain ⟨c, a⟩ := p
  by_cases ha : a = 0
  · have h3 := h1 ha
    have e1 : sm (f - e * c) x = ad (ln e f x) (sm (-e) (mp (c, a) x)) := by
      rw [mp_l (p := (c, a)) ha]
      funext i
      show (f - e * c) * x i = ln e f x i + -e * ln 1 c x i
      rw [ln_at, ln_at]
      grind
    refine pd.of_sm h3 ?_
    rw [e1]
    exact h.ad ((pd.self _ hx).sm _)
  · by_cases he : e = 0
    · have hf : f ≠ 0 := (h2 ha).resolve_left (fun k => k he)
      have e1 : ln e f x = sm f x := by
        funext i
        show ln e f x i = f * x i
        rw [ln_at, he]
        grind
      rw [e1] at h
      exact h.of_sm hf
    · obtain ⟨d, hd⟩ : ∃ d, d = (c - f / e) * (c - f / e) + a * a := ⟨_, rfl⟩
      have s := split1 (c := c) (a := a) he hd x zr
      rw [ln_zr, ad_zr, sb_zr] at s
      have hd0 : d ≠ 0 := by
        have s1 := sq_ge a
        have s2 := sq_ge (c - f / e)
        intro k
        have : a * a = 0 := by grind
        rcases Rat.mul_eq_zero.1 this with k | k <;> exact ha k
      refine pd.of_sm hd0 ?_
      have e1 : sm d x = ad (mp (c, a) x) (sm (-1) (ln e⁻¹ (e⁻¹ * (2 * c - f / e)) (ln e f x))) := by
        rw [← s, mp_d (p := (c, a)) ha]
        funext i
        simp only [ad, sb, sm]
        grind
      rw [e1]
      exact (pd.self _ hx).ad ((h.ln _ _).sm _)
theorem pd_mp {p r : Rat × Rat} {x : Po} (hx : Fs x) (hp : 0 ≤ p.2) (hr : 0 ≤ r.2) (hne : p ≠ r) (h : pd p (mp r x)) : pd p x := by
  obtain ⟨c, a⟩ := p
  obtain ⟨c', a'⟩ := r
  simp only at hp hr
  by_cases hr0 : a' = 0
  · rw [mp_l (p := (c', a')) hr0] at h
    refine pd_ln hx h (fun k => ?_) (fun _ => .inl (by decide))
    show c' - 1 * c ≠ 0
    have k : a = 0 := k
    intro e
    refine hne ?_
    rw [k, hr0, show c = c' by grind]
  · rw [mp_d (p := (c', a')) hr0] at h
    by_cases ha : a = 0
    · -- dq c' a' x = (t + c) (..) + ((c' - c)^2 + a'^2) x
      have e1 : dq c' a' x = ad (mp (c, a) (ln 1 (2 * c' - c) x)) (sm ((c' - c) * (c' - c) + a' * a') x) := by
        rw [mp_l (p := (c, a)) ha]
        funext i
        show dq c' a' x i = ln 1 c (ln 1 (2 * c' - c) x) i + ((c' - c) * (c' - c) + a' * a') * x i
        rw [dq_at]
        have e2 : ln 1 c (ln 1 (2 * c' - c) x) i = sh (sh x) i + 2 * c' * sh x i + c * (2 * c' - c) * x i := by
          unfold ln
          rw [sh_ad, sh_sm, sh_sm]
          simp only [ad, sm]
          grind
        rw [e2]
        grind
      have hd : (c' - c) * (c' - c) + a' * a' ≠ 0 := by
        have s1 := sq_ge a'
        have s2 := sq_ge (c' - c)
        intro k
        have : a' * a' = 0 := by grind
        rcases Rat.mul_eq_zero.1 this with k | k <;> exact hr0 k
      refine pd.of_sm hd ?_
      have e3 : sm ((c' - c) * (c' - c) + a' * a') x = ad (dq c' a' x) (sm (-1) (mp (c, a) (ln 1 (2 * c' - c) x))) := by
        rw [e1]
        funext i
        simp only [ad, sm]
        grind
      rw [e3]
      exact h.ad ((pd.self _ (hx.ln _ _)).sm _)
    · have e1 : ln (2 * (c' - c)) (c' * c' + a' * a' - c * c - a * a) x = ad (dq c' a' x) (sm (-1) (mp (c, a) x)) := by
        rw [mp_d (p := (c, a)) ha]
        funext i
        show ln _ _ x i = dq c' a' x i + -1 * dq c a x i
        rw [dq_at, dq_at, ln_at]
        grind
      refine pd_ln (e := 2 * (c' - c)) (f := c' * c' + a' * a' - c * c - a * a) hx ?_ (fun k => absurd k ha) (fun _ => ?_)
      · rw [e1]
        exact h.ad ((pd.self _ hx).sm _)
      · refine Classical.byContradiction fun k => hne ?_
        have k1 : 2 * (c' - c) = 0 := Classical.byContradiction fun e => k (.inl e)
        have k2 : c' * c' + a' * a' - c * c - a * a = 0 := Classical.byContradiction fun e => k (.inr e)
        have k3 : c' = c := by grind
        have k4 : (a' - a) * (a' + a) = 0 := by rw [k3] at k2; grind
        have k5 : a' = a := by
          rcases Rat.mul_eq_zero.1 k4 with e | e
          · grind
          · grind
        rw [k3, k5]
theorem on_mp_len (p : Rat × Rat) : len (mp p on) = 1 + mk p := by
  rw [(mp_len p on_fs on_ne).1, on_pl.len]
theorem short_ln {r : Po} (h : Fs r) (hl : len r < 3) : r = ln (r 1) (r 0) on := by
  funext i
  rw [ln_at]
  match i with
  | 0 => rw [sh_0]; unfold on; simp; grind
  | 1 => rw [sh_succ]; unfold on; simp; grind
  | i + 2 => rw [sh_succ, out h (show len r ≤ i + 2 by omega)]; unfold on; simp; grind
theorem prime {p : Rat × Rat} {q : List Rat} {k : Po} (hk : Fs k) (h : pd p (mulL q k)) : pd p k ∨ pd p (mulL q on) := by
  obtain ⟨qk, e⟩ := fs_on hk
  have fm := on_fs.mulL q
  obtain ⟨r, fr, hr, mr⟩ := rm_ex (on_fs.mp p) (mp_ne p on_fs on_ne) _ (mulL q on) fm (Nat.le_refl _)
  rw [on_mp_len] at hr
  obtain ⟨m1, hm1, e1⟩ := mu_mp mr
  have fm1 := on_fs.mu hm1
  have hr3 : len r < 3 := by
    have : mk p ≤ 2 := by unfold mk; split <;> omega
    omega
  have er := short_ln fr hr3
  have e2 : mulL q on = ad (mp p m1) (ln (r 1) (r 0) on) := by
    rw [← er, ← e1]
    funext i
    simp only [ad, sb]
    grind
  have e3 : mulL q k = ad (mp p (mulL qk m1)) (ln (r 1) (r 0) k) := by
    rw [e, mulL_comm, e2, mulL_ad, mp_mulL, mulL_ln]
  have h1 : pd p (ln (r 1) (r 0) k) := by
    have : ln (r 1) (r 0) k = ad (mulL q k) (sm (-1) (mp p (mulL qk m1))) := by
      rw [e3]
      funext i
      simp only [ad, sm]
      grind
    rw [this]
    exact h.ad ((pd.self p (fm1.mulL qk)).sm _)
  by_cases hz : r 1 = 0 ∧ r 0 = 0
  · refine .inr ?_
    rw [e2]
    have : ln (r 1) (r 0) on = zr := by
      funext i
      rw [ln_at, hz.1, hz.2]
      show _ = (0 : Rat)
      grind
    rw [this, ad_zr]
    exact pd.self p fm1
  · refine .inl (pd_ln hk h1 (fun k => ?_) (fun k => ?_))
    · have h11 : r 1 = 0 := out fr (by unfold mk at hr; rw [if_pos k] at hr; omega)
      rw [h11]
      have : r 0 ≠ 0 := fun e => hz ⟨h11, e⟩
      grind
    · refine Classical.byContradiction fun e => hz ?_
      exact ⟨Classical.byContradiction fun e1 => e (.inl e1), Classical.byContradiction fun e1 => e (.inr e1)⟩
theorem cancel {p : Rat × Rat} {k w : Po} (hk : Fs k) (hw : Fs w) (hn : ¬ pd p k) (h : Mu k (mp p w)) : Mu k w := by
  obtain ⟨q, e⟩ := h
  have h1 : pd p (mulL q k) := by rw [← e]; exact pd.self p hw
  rcases prime hk h1 with h2 | ⟨m, fm, em⟩
  · exact absurd h2 hn
  · obtain ⟨qk, ek⟩ := fs_on hk
    obtain ⟨qm, eqm⟩ := fs_on fm
    refine ⟨qm, ?_⟩
    refine mp_inj p hw (hk.mulL qm) ?_
    rw [e]
    rw [ek, mulL_comm, em, mp_mulL, eqm, mulL_comm]
def Cop (x y : Po) : Prop := ∀ g, Fs g → Mu g x → Mu g y → len g ≤ 1
def mps : List (Rat × Rat) → Po → Po
  | [], x => x
  | p :: l, x => mp p (mps l x)
theorem Fs.mps {x : Po} (h : Fs x) : ∀ l, Fs (mps l x)
  | [] => h
  | p :: l => (Fs.mps h l).mp p
theorem mps_mp (p : Rat × Rat) (x : Po) : ∀ l, mps l (mp p x) = mp p (mps l x)
  | [] => rfl
  | r :: l => by simp only [mps]; rw [mps_mp p x l, mp_mp]
theorem mps_ad (x y : Po) : ∀ l, mps l (ad x y) = ad (mps l x) (mps l y)
  | [] => rfl
  | r :: l => by simp only [mps]; rw [mps_ad x y l, mp_ad]
theorem mps_sb (x y : Po) : ∀ l, mps l (sb x y) = sb (mps l x) (mps l y)
  | [] => rfl
  | r :: l => by simp only [mps]; rw [mps_sb x y l, mp_sb]
theorem mps_sm (k : Rat) (x : Po) : ∀ l, mps l (sm k x) = sm k (mps l x)
  | [] => rfl
  | r :: l => by simp only [mps]; rw [mps_sm k x l, mp_sm]
theorem mps_ln (a b : Rat) (x : Po) : ∀ l, mps l (ln a b x) = ln a b (mps l x)
  | [] => rfl
  | r :: l => by simp only [mps]; rw [mps_ln a b x l, mp_ln]
theorem mps_inj {x y : Po} (hx : Fs x) (hy : Fs y) : ∀ l, mps l x = mps l y → x = y
  | [], h => h
  | p :: l, h => mps_inj hx hy l (mp_inj p (hx.mps l) (hy.mps l) h)
theorem Mu.mps {x y : Po} (h : Mu x y) : ∀ l, Mu (K.mps l x) (K.mps l y)
  | [] => h
  | p :: l => (Mu.mps h l).mp p
theorem mu_mps {x : Po} : ∀ (l : List (Rat × Rat)) (y : Po), Mu (mps l x) y → ∃ z, Mu x z ∧ y = mps l z
  | [], y, h => ⟨y, h, rfl⟩
  | p :: l, y, h => by
    obtain ⟨z, hz, e⟩ := mu_mp h
    obtain ⟨w, hw, e2⟩ := mu_mps l z hz
    exact ⟨w, hw, by rw [e, e2]; rfl⟩
theorem mps_ne {x : Po} (hx : Fs x) (h0 : x ≠ zr) : ∀ l, mps l x ≠ zr
  | [] => h0
  | p :: l => mp_ne p (hx.mps l) (mps_ne hx h0 l)
theorem mps_zr : ∀ l, mps l zr = zr
  | [] => rfl
  | p :: l => by simp only [mps]; rw [mps_zr l, mp_zr]
theorem gc_mps {x y s : Po} {l : List (Rat × Rat)} (hx : Fs x) (hy : Fs y) (hx0 : x ≠ zr) (hc : Cop x y) (hs : Fs s) (h : Gc (mps l x) (mps l y) s) : ∃ k, k ≠ 0 ∧ s = sm k (mps l on) := by
  have hon : ∀ z, Fs z → Mu on z := fun z hz => by obtain ⟨q, e⟩ := fs_on hz; exact ⟨q, e⟩
  have h1 : Mu (mps l on) s := (h _).1 ⟨(hon x hx).mps l, (hon y hy).mps l⟩
  obtain ⟨z, hz, e⟩ := mu_mps l s h1
  have fz := on_fs.mu hz
  obtain ⟨h2, h3⟩ := (h s).2 (.self s)
  have down : ∀ w, Fs w → Mu s (mps l w) → Mu z w := by
    intro w hw hm
    rw [e] at hm
    obtain ⟨v, hv, e2⟩ := mu_mps l _ hm
    rw [mps_inj hw (fz.mu hv) l e2]
    exact hv
  have h4 := hc z fz (down x hx h2) (down y hy h3)
  have ez := len1 fz (by omega)
  refine ⟨z 0, fun e0 => ?_, by rw [e, ez, mps_sm]; simp only [sm]; unfold on; simp⟩
  have : z = zr := by rw [ez, e0]; funext i; simp only [sm, zr]; exact Rat.zero_mul _
  have h5 := down x hx h2
  rw [this] at h5
  obtain ⟨q, e6⟩ := h5
  refine hx0 ?_
  rw [e6]
  have := mulL_smx q 0 zr
  rw [sm_zr] at this
  rw [this]
  funext i
  simp only [sm, zr]
  exact Rat.zero_mul _
end Go.Proofs.YtklkpkkjakllfaaGreatDoor.K
namespace Go.Proofs.YtklkpkkjakllfaaGreatDoor.K
theorem eps_mp (p : Rat × Rat) {x y : Po} (hx : Fs x) (hy : Fs y) (hx0 : x ≠ zr) : eps (mp p x) (mp p y) = eps x y := by
  by_cases hy0 : y = zr
  · rw [hy0, mp_zr, eps_zr, eps_zr]
  · obtain ⟨h1, h2⟩ := mp_len p hx hx0
    obtain ⟨h3, h4⟩ := mp_len p hy hy0
    unfold eps
    rw [h1, h2, h3, h4]
    by_cases k : (len x + len y) % 2 = 1
    · rw [if_pos k, if_pos (by omega)]
    · rw [if_neg k, if_neg (by omega)]
theorem idx_mpF (p : Rat × Rat) : ∀ (n : Nat) (x y : Po), Fs x → Fs y → len x ≤ n → idx (mp p x) (mp p y) = idx x y := by
  intro n
  induction n with
  | zero =>
    intro x y hx hy hn
    have h0 : x = zr := (len_eq_0 hx).1 (by omega)
    rw [h0, mp_zr, idx_nil _ rfl, idx_nil _ rfl]
  | succ n ih =>
    intro x y hx hy hn
    by_cases h0 : x = zr
    · rw [h0, mp_zr, idx_nil _ rfl, idx_nil _ rfl]
    · obtain ⟨r, hr⟩ := rm_ex hx h0 _ y hy (Nat.le_refl _)
      have hl := hr.2.1
      have hm := (mp_len p hx h0).1
      have h1 : Rm (mp p x) (mp p y) (mp p r) := by
        refine ⟨hr.1.mp p, ?_, by rw [← mp_sb]; exact hr.2.2.mp p⟩
        by_cases hr0 : r = zr
        · rw [hr0, mp_zr, len_zr]; omega
        · rw [(mp_len p hr.1 hr0).1]; omega
      rw [idx_step (hx.mp p) (mp_ne p hx h0) (hy.mp p) h1, idx_step hx h0 hy hr, eps_mp p hx hr.1 h0, ih r x hr.1 hx (by omega)]
theorem idx_mp (p : Rat × Rat) {x y : Po} (hx : Fs x) (hy : Fs y) : idx (mp p x) (mp p y) = idx x y := idx_mpF p _ x y hx hy (Nat.le_refl _)
theorem idx_mps {x y : Po} (hx : Fs x) (hy : Fs y) : ∀ l, idx (mps l x) (mps l y) = idx x y
  | [] => rfl
  | p :: l => by simp only [mps]; rw [idx_mp p (hx.mps l) (hy.mps l), idx_mps hx hy l]
def lin : List (Rat × Rat) → Nat
  | [] => 0
  | p :: l => (if p.2 = 0 then 1 else 0) + lin l
def Nv (X Y : Po) (n : Nat) (u : Int) (m : Nat) : Prop :=
  Fs X ∧ Fs Y ∧ len X = n ∧ len Y < n ∧ idx X Y = u ∧ ∃ ps X0 Y0, (∀ p ∈ ps, 0 ≤ p.2) ∧ Fs X0 ∧ Fs Y0 ∧ X0 ≠ zr ∧ Cop X0 Y0 ∧ X = mps ps X0 ∧ Y = mps ps Y0 ∧ lin ps = m
theorem sm_0 (x : Po) : sm 0 x = zr := by funext i; simp only [sm, zr]; exact Rat.zero_mul _
theorem nv_start {k : Rat} (hk : k ≠ 0) : Nv (sm k on) zr 1 0 0 := by
  have f := on_fs.sm k
  have h0 := sm_ne hk on_ne
  have hl : len (sm k on) = 1 := by rw [len_sm on_fs hk]; exact on_pl.len
  refine ⟨f, .zr, hl, by rw [len_zr]; omega, idx_zr _ f, [], sm k on, zr, (fun p hp => by cases hp), f, .zr, h0, fun g hg h1 _ => ?_, rfl, rfl, rfl⟩
  by_cases g0 : g = zr
  · rw [g0, len_zr]; omega
  · have := h1.len hg g0 h0
    omega
theorem nv_step {X Y : Po} {n : Nat} {u : Int} {m : Nat} (c a : Rat) (h : Nv X Y n u m) : Nv (ad (ln 1 c X) (sm a Y)) (sb (ln 1 c Y) (sm a X)) (n + 1) (u - sgn1 a) (if a = 0 then m + 1 else m) := by
  obtain ⟨fX, fY, hX, hY, hu, ps, X0, Y0, hps, f0, g0, n0, hc, eX, eY, hl⟩ := h
  have hX0 : X ≠ zr := by rw [eX]; exact mps_ne f0 n0 ps
  have l1 := len_ln (a := 1) c (by decide) fX hX0
  have lY : len (ln 1 c Y) ≤ len Y + 1 := by
    by_cases e : Y = zr
    · rw [e, ln_zr, len_zr]; omega
    · rw [(len_ln (a := 1) c (by decide) fY e).1]; omega
  by_cases ha : a = 0
  · rw [ha, if_pos rfl, sm_0, sm_0, ad_zr, sb_zr, sgn_zero]
    have em : ∀ x, ln 1 c x = mp (c, 0) x := fun x => (mp_l (p := (c, 0)) rfl x).symm
    refine ⟨fX.ln 1 c, fY.ln 1 c, by omega, by omega, ?_, (c, 0) :: ps, X0, Y0, ?_, f0, g0, n0, hc, ?_, ?_, ?_⟩
    · rw [em, em, idx_mp _ fX fY]
      omega
    · intro p hp
      rcases List.mem_cons.1 hp with e | e
      · rw [e]; exact Rat.le_refl
      · exact hps p e
    · rw [em, eX]; rfl
    · rw [em, eY]; rfl
    · show (if (0 : Rat) = 0 then 1 else 0) + lin ps = m + 1
      rw [if_pos rfl, hl]
      omega
  · rw [if_neg ha]
    have lsY : len (sm a Y) = len Y := len_sm fY ha
    have lsX : len (sm a X) = len X := len_sm fX ha
    have h3 := (len_ad (fX.ln 1 c) (fY.sm a) (by omega)).1
    have h4 : len (sb (ln 1 c Y) (sm a X)) ≤ n := by
      refine len_le ((fY.ln 1 c).sb (fX.sm a)) (fun i hi => ?_)
      show ln 1 c Y i - sm a X i = 0
      rw [out (fY.ln 1 c) (by omega), out (fX.sm a) (by omega)]
      grind
    have hix := idx_turned (c := c) ha fX fY hX0 (by omega)
    refine ⟨(fX.ln 1 c).ad (fY.sm a), (fY.ln 1 c).sb (fX.sm a), by omega, by omega, by rw [hix, hu], ?_⟩
    -- the rest, turned
    obtain ⟨X1, hX1⟩ : ∃ X1, X1 = ad (ln 1 c X0) (sm a Y0) := ⟨_, rfl⟩
    obtain ⟨Y1, hY1⟩ : ∃ Y1, Y1 = sb (ln 1 c Y0) (sm a X0) := ⟨_, rfl⟩
    have f1 : Fs X1 := by rw [hX1]; exact (f0.ln 1 c).ad (g0.sm a)
    have g1 : Fs Y1 := by rw [hY1]; exact (g0.ln 1 c).sb (f0.sm a)
    have eX1 : ad (ln 1 c X) (sm a Y) = mps ps X1 := by rw [hX1, mps_ad, mps_ln, mps_sm, ← eX, ← eY]
    have eY1 : sb (ln 1 c Y) (sm a X) = mps ps Y1 := by rw [hY1, mps_sb, mps_ln, mps_sm, ← eX, ← eY]
    have n1 : X1 ≠ zr := by
      intro e
      rw [e, mps_zr] at eX1
      rw [eX1, len_zr] at h3
      omega
    have bX : ∀ (u v : Po), ad (ln 1 c (ad (ln 1 c u) (sm a v))) (sm (-a) (sb (ln 1 c v) (sm a u))) = dq c a u := by
      intro u v
      rw [ln_ad, ln_sm]
      funext i
      show ln 1 c (ln 1 c u) i + a * ln 1 c v i + -a * (ln 1 c v i - a * u i) = ln 1 c (ln 1 c u) i + a * a * u i
      grind
    have bY : ∀ (u v : Po), ad (ln 1 c (sb (ln 1 c v) (sm a u))) (sm a (ad (ln 1 c u) (sm a v))) = dq c a v := by
      intro u v
      rw [ln_sb, ln_sm]
      funext i
      show ln 1 c (ln 1 c v) i - a * ln 1 c u i + a * (ln 1 c u i + a * v i) = ln 1 c (ln 1 c v) i + a * a * v i
      grind
    -- |a|
    obtain ⟨b, hb0, hb, hbb⟩ : ∃ b : Rat, 0 ≤ b ∧ b ≠ 0 ∧ b * b = a * a := by
      rcases Rat.le_total (a := 0) (b := a) with k | k
      · exact ⟨a, k, ha, rfl⟩
      · exact ⟨-a, by grind, by grind, by grind⟩
    have em : ∀ x, dq c a x = mp (c, b) x := fun x => by
      rw [mp_d (p := (c, b)) hb]
      unfold dq
      rw [hbb]
    by_cases hd : pd (c, b) X1 ∧ pd (c, b) Y1
    · obtain ⟨⟨X2, f2, e2⟩, Y2, g2, e3⟩ := hd
      refine ⟨(c, b) :: ps, X2, Y2, ?_, f2, g2, ?_, ?_, ?_, ?_, ?_⟩
      · intro p hp
        rcases List.mem_cons.1 hp with e | e
        · rw [e]; exact hb0
        · exact hps p e
      · intro e; rw [e, mp_zr] at e2; exact n1 e2
      · intro g hg k1 k2
        have k3 : X0 = ad (ln 1 c X2) (sm (-a) Y2) := by
          refine mp_inj (c, b) f0 ((f2.ln 1 c).ad (g2.sm _)) ?_
          rw [← em, ← bX X0 Y0, ← hX1, ← hY1, e2, e3, mp_ad, mp_sm, mp_ln]
        have k4 : Y0 = ad (ln 1 c Y2) (sm a X2) := by
          refine mp_inj (c, b) g0 ((g2.ln 1 c).ad (f2.sm _)) ?_
          rw [← em, ← bY X0 Y0, ← hX1, ← hY1, e2, e3, mp_ad, mp_sm, mp_ln]
        refine hc g hg ?_ ?_
        · rw [k3]; exact (k1.ln 1 c).add (k2.sm _)
        · rw [k4]; exact (k2.ln 1 c).add (k1.sm _)
      · rw [eX1, e2, mps_mp]; rfl
      · rw [eY1, e3, mps_mp]; rfl
      · show (if b = 0 then 1 else 0) + lin ps = m
        rw [if_neg hb, hl]
        omega
    · refine ⟨ps, X1, Y1, hps, f1, g1, n1, ?_, eX1, eY1, hl⟩
      intro g hg k1 k2
      have hn : ¬ pd (c, b) g := fun k => hd ⟨k.mu k1, k.mu k2⟩
      refine hc g hg ?_ ?_
      · refine cancel hg f0 hn ?_
        rw [← em, ← bX X0 Y0, ← hX1, ← hY1]
        exact (k1.ln 1 c).add (k2.sm _)
      · refine cancel hg g0 hn ?_
        rw [← em, ← bY X0 Y0, ← hX1, ← hY1]
        exact (k2.ln 1 c).add (k1.sm _)
end Go.Proofs.YtklkpkkjakllfaaGreatDoor.K
namespace Go.Proofs.YtklkpkkjakllfaaGreatDoor.K
theorem dv_ad (x y : Po) : slopeP (ad x y) = ad (slopeP x) (slopeP y) := by
  funext i
  show (x (i + 1) + y (i + 1)) * _ = x (i + 1) * _ + y (i + 1) * _
  grind
theorem dv_sm (k : Rat) (x : Po) : slopeP (sm k x) = sm k (slopeP x) := by
  funext i
  show k * x (i + 1) * _ = k * (x (i + 1) * _)
  grind
theorem dv_ln (c : Rat) (x : Po) : slopeP (ln 1 c x) = ad x (ln 1 c (slopeP x)) := by
  funext i
  show ln 1 c x (i + 1) * ((i + 1 : Nat) : Rat) = x i + ln 1 c (slopeP x) i
  rw [ln_at, ln_at, sh_succ]
  cases i with
  | zero =>
    rw [sh_0]
    show _ = x 0 + (1 * 0 + c * (x (0 + 1) * ((0 + 1 : Nat) : Rat)))
    have : ((0 + 1 : Nat) : Rat) = 1 := rfl
    rw [this]
    grind
  | succ i =>
    rw [sh_succ]
    show _ = x (i + 1) + (1 * (x (i + 1) * ((i + 1 : Nat) : Rat)) + c * (x (i + 1 + 1) * ((i + 1 + 1 : Nat) : Rat)))
    have : ((i + 1 + 1 : Nat) : Rat) = ((i + 1 : Nat) : Rat) + 1 := by
      have := Rat.natCast_add (i + 1) 1
      exact this
    rw [this]
    grind
theorem dv_dq (c a : Rat) (x : Po) : slopeP (dq c a x) = ad (ln 2 (2 * c) x) (dq c a (slopeP x)) := by
  unfold dq
  rw [dv_ad, dv_sm, dv_ln, dv_ln, ln_ad]
  funext i
  show ln 1 c x i + (ln 1 c x i + ln 1 c (ln 1 c (slopeP x)) i) + a * a * slopeP x i = ln 2 (2 * c) x i + (ln 1 c (ln 1 c (slopeP x)) i + a * a * slopeP x i)
  rw [ln_at 1 c x, ln_at 2]
  grind
def dp (p : Rat × Rat) (x : Po) : Po := if p.2 = 0 then x else ln 2 (2 * p.1) x
theorem dv_mp (p : Rat × Rat) (x : Po) : slopeP (mp p x) = ad (dp p x) (mp p (slopeP x)) := by
  unfold dp
  by_cases h : p.2 = 0
  · rw [mp_l h, mp_l h, if_pos h, dv_ln]
  · rw [mp_d h, mp_d h, if_neg h, dv_dq]
theorem dp_fs (p : Rat × Rat) {x : Po} (h : Fs x) : Fs (dp p x) := by
  unfold dp
  split
  · exact h
  · exact h.ln _ _
theorem dp_mp (p r : Rat × Rat) (x : Po) : dp p (mp r x) = mp r (dp p x) := by
  unfold dp
  by_cases h : p.2 = 0
  · rw [if_pos h, if_pos h]
  · rw [if_neg h, if_neg h, mp_ln]
theorem dp_mps (p : Rat × Rat) (x : Po) : ∀ l, dp p (mps l x) = mps l (dp p x)
  | [] => rfl
  | r :: l => by simp only [mps]; rw [dp_mp, dp_mps p x l]
theorem dv_fs {x : Po} (h : Fs x) : Fs (slopeP x) := (PL_slope h.len).fs
theorem mps_app (x : Po) (l : List (Rat × Rat)) : ∀ k, mps (k ++ l) x = mps k (mps l x)
  | [] => rfl
  | p :: k => by simp only [List.cons_append, mps]; rw [mps_app x l k]
theorem lin_app (l : List (Rat × Rat)) : ∀ k, lin (k ++ l) = lin k + lin l
  | [] => by simp [lin]
  | p :: k => by simp only [List.cons_append, lin]; rw [lin_app l k]; omega
theorem dv_rep (p : Rat × Rat) (z : Po) : ∀ m : Nat, slopeP (mps (List.replicate (m + 1) p) z) = mps (List.replicate m p) (ad (sm ((m + 1 : Nat) : Rat) (dp p z)) (mp p (slopeP z)))
  | 0 => by
    show slopeP (mp p z) = ad (sm _ (dp p z)) (mp p (slopeP z))
    have : ((0 + 1 : Nat) : Rat) = 1 := rfl
    rw [dv_mp, this, sm_one]
  | m + 1 => by
    show slopeP (mp p (mps (List.replicate (m + 1) p) z)) = mp p (mps (List.replicate m p) _)
    rw [dv_mp, dv_rep p z m, dp_mps]
    show ad (mp p (mps (List.replicate m p) (dp p z))) (mp p (mps (List.replicate m p) _)) = _
    rw [← mp_ad, ← mps_ad]
    congr 2
    have : ((m + 1 + 1 : Nat) : Rat) = ((m + 1 : Nat) : Rat) + 1 := by
      have := Rat.natCast_add (m + 1) 1
      exact this
    rw [this]
    funext i
    simp only [ad, sm]
    grind
abbrev Gr := List ((Rat × Rat) × Nat)
def yl : Gr → List (Rat × Rat)
  | [] => []
  | (p, m) :: l => List.replicate (m + 1) p ++ yl l
def hl : Gr → List (Rat × Rat)
  | [] => []
  | (p, m) :: l => List.replicate m p ++ hl l
def gw : Gr → Po
  | [] => on
  | (p, _) :: l => mp p (gw l)
def gd : Gr → Po
  | [] => zr
  | (p, m) :: l => ad (sm ((m + 1 : Nat) : Rat) (dp p (gw l))) (mp p (gd l))
def keys : Gr → List (Rat × Rat)
  | [] => []
  | (p, _) :: l => p :: keys l
def good : Gr → Prop
  | [] => True
  | (p, _) :: l => 0 ≤ p.2 ∧ p ∉ keys l ∧ good l
def lk : Gr → Nat
  | [] => 0
  | (p, _) :: l => (if p.2 = 0 then 1 else 0) + lk l
theorem gw_fs : ∀ g, Fs (gw g)
  | [] => on_fs
  | (p, _) :: l => (gw_fs l).mp p
theorem gd_fs : ∀ g, Fs (gd g)
  | [] => .zr
  | (p, m) :: l => ((dp_fs p (gw_fs l)).sm _).ad ((gd_fs l).mp p)
theorem gw_ne : ∀ g, gw g ≠ zr
  | [] => on_ne
  | (p, _) :: l => mp_ne p (gw_fs l) (gw_ne l)
theorem y_is : ∀ g, mps (yl g) on = mps (hl g) (gw g)
  | [] => rfl
  | (p, m) :: l => by
    simp only [yl, hl, gw]
    rw [mps_app, mps_app, y_is l, List.replicate_succ]
    show mp p (mps (List.replicate m p) _) = _
    rw [mps_mp, mps_mp]
theorem dy_is : ∀ g, slopeP (mps (yl g) on) = mps (hl g) (gd g)
  | [] => by
    show slopeP on = zr
    funext i
    show on (i + 1) * _ = 0
    unfold on
    rw [if_neg (by omega), Rat.zero_mul]
  | (p, m) :: l => by
    simp only [yl, hl, gd]
    rw [mps_app, mps_app, dv_rep, dy_is l, y_is l, dp_mps]
    refine congrArg (mps _) ?_
    rw [mps_ad, mps_sm, mps_mp]
theorem lin_rep (p : Rat × Rat) : ∀ m, lin (List.replicate m p) = if p.2 = 0 then m else 0
  | 0 => by simp [lin]
  | m + 1 => by
    rw [List.replicate_succ]
    simp only [lin]
    rw [lin_rep p m]
    split <;> omega
theorem lin_y : ∀ g, lin (yl g) = lk g + lin (hl g)
  | [] => rfl
  | (p, m) :: l => by
    simp only [yl, hl, lk]
    rw [lin_app, lin_app, lin_rep, lin_rep, lin_y l]
    split <;> omega
theorem keys_nn : ∀ g, good g → ∀ p ∈ keys g, 0 ≤ p.2
  | [], _, p, hp => by cases hp
  | (r, m) :: l, h, p, hp => by
    rcases List.mem_cons.1 hp with e | e
    · rw [e]; exact h.1
    · exact keys_nn l h.2.2 p e
theorem on_not (p : Rat × Rat) : ¬ pd p on := by
  rintro ⟨y, hy, e⟩
  have hy0 : y ≠ zr := fun k => on_ne (by rw [e, k, mp_zr])
  have h1 := (mp_len p hy hy0).1
  rw [← e, on_pl.len] at h1
  have := len_pos hy hy0
  have := mk_pos p
  omega
theorem gw_not (p : Rat × Rat) (hp : 0 ≤ p.2) : ∀ g, good g → p ∉ keys g → ¬ pd p (gw g)
  | [], _, _ => on_not p
  | (r, m) :: l, h, hn => by
    intro k
    have hne : p ≠ r := fun e => hn (by rw [e]; exact List.mem_cons_self)
    exact gw_not p hp l h.2.2 (fun e => hn (List.mem_cons_of_mem _ e)) (pd_mp (gw_fs l) hp h.1 hne k)
theorem gw_has {p : Rat × Rat} : ∀ g, p ∈ keys g → pd p (gw g)
  | [], h => by cases h
  | (r, m) :: l, h => by
    rcases List.mem_cons.1 h with e | e
    · rw [e]; exact pd.self r (gw_fs l)
    · exact (gw_has l e).mp r
theorem natP_ne (m : Nat) : ((m + 1 : Nat) : Rat) ≠ 0 := natQ_ne (Nat.succ_pos m)
theorem ad_sub (x y : Po) : x = ad (ad x y) (sm (-1) y) := by funext i; simp only [ad, sm]; grind
theorem gd_not : ∀ g, good g → ∀ p ∈ keys g, ¬ pd p (gd g)
  | [], _, p, hp => by cases hp
  | (r, m) :: l, h, p, hp => by
    intro k
    simp only [gd] at k
    by_cases e : p = r
    · subst e
      have k1 : pd p (sm ((m + 1 : Nat) : Rat) (dp p (gw l))) := by
        rw [ad_sub (sm _ _) (mp p (gd l))]
        exact k.ad ((pd.self p (gd_fs l)).sm _)
      have k2 := k1.of_sm (natP_ne m)
      have k3 : pd p (gw l) := by
        unfold dp at k2
        by_cases hz : p.2 = 0
        · rw [if_pos hz] at k2; exact k2
        · rw [if_neg hz] at k2
          exact pd_ln (gw_fs l) k2 (fun e => absurd e hz) (fun _ => .inl (by decide))
      exact gw_not p h.1 l h.2.2 h.2.1 k3
    · have hl : p ∈ keys l := (List.mem_cons.1 hp).resolve_left e
      have k1 : pd p (mp r (gd l)) := by
        have hw := gw_has l hl
        have hdp : pd p (dp r (gw l)) := by
          unfold dp
          split
          · exact hw
          · exact hw.ln _ _
        rw [ad_sub (mp r (gd l)) (sm ((m + 1 : Nat) : Rat) (dp r (gw l))), ad_comm (mp r (gd l))]
        exact k.ad ((hdp.sm _).sm _)
      exact gd_not l h.2.2 p hl (pd_mp (gd_fs l) (keys_nn l h.2.2 p hl) h.1 e k1)
theorem gw_cop {g : Po} (hg : Fs g) : ∀ l, (∀ p ∈ keys l, ¬ pd p g) → Mu g (gw l) → len g ≤ 1
  | [], _, h => by
    by_cases g0 : g = zr
    · rw [g0, len_zr]; omega
    · have h2 : len g ≤ len on := h.len hg g0 on_ne
      rw [on_pl.len] at h2
      exact h2
  | (p, m) :: l, hn, h => gw_cop hg l (fun r hr => hn r (List.mem_cons_of_mem _ hr)) (cancel hg (gw_fs l) (hn p List.mem_cons_self) h)
theorem cop_g {l : Gr} (h : good l) : Cop (gw l) (gd l) := fun g hg h1 h2 => gw_cop hg l (fun p hp k => gd_not l h p hp (k.mu h2)) h1
theorem idx_g : ∀ l, good l → idx (gw l) (gd l) = (lk l : Nat)
  | [], _ => idx_zr _ on_fs
  | (p, m) :: l, h => by
    have ih := idx_g l h.2.2
    simp only [gw, gd, lk]
    by_cases hz : p.2 = 0
    · rw [mp_l hz, mp_l hz, if_pos hz]
      have e1 : dp p (gw l) = gw l := by unfold dp; rw [if_pos hz]
      rw [e1]
      have hev : ev p.1 (gw l) ≠ 0 := by
        intro e
        obtain ⟨y, hy, ey⟩ := ev_zero p.1 (gw_fs l) e
        exact gw_not p h.1 l h.2.2 h.2.1 ⟨y, hy, by rw [mp_l hz]; exact ey⟩
      rw [idx_pole p.1 (gw_fs l) (gd_fs l) hev (natP_ne m), ih]
      have : sgn1 ((m + 1 : Nat) : Rat) = 1 := by
        refine sgn_pos ?_
        have h1 : (0 : Rat) ≤ ((m + 1 : Nat) : Rat) := by exact_mod_cast Nat.zero_le (m + 1)
        have h2 := natP_ne m
        grind
      rw [this]
      omega
    · rw [mp_d hz, mp_d hz, if_neg hz]
      have e1 : dp p (gw l) = ln 2 (2 * p.1) (gw l) := by unfold dp; rw [if_neg hz]
      rw [e1]
      have f1 := (gw_fs l).ln 2 (2 * p.1)
      have f2 := (gd_fs l).dq p.1 p.2
      rw [idx_dq p.1 hz (gw_fs l) ((f1.sm _).ad f2) (gw_ne l)]
      have e2 : idx (gw l) (ad (sm ((m + 1 : Nat) : Rat) (ln 2 (2 * p.1) (gw l))) (dq p.1 p.2 (gd l))) = idx (gw l) (dq p.1 p.2 (gd l)) := by
        refine idx_add (gw_fs l) f2 ((f1.sm _).ad f2) ?_
        have e3 : sb (ad (sm ((m + 1 : Nat) : Rat) (ln 2 (2 * p.1) (gw l))) (dq p.1 p.2 (gd l))) (dq p.1 p.2 (gd l)) = sm ((m + 1 : Nat) : Rat) (ln 2 (2 * p.1) (gw l)) := by
          funext i
          simp only [sb, ad]
          grind
        rw [e3]
        exact ((Mu.self _).ln _ _).sm _
      rw [e2, idx_dqr p.1 hz (gw_fs l) (gd_fs l) (gw_ne l), ih]
      omega
theorem put_in (p : Rat × Rat) (hp : 0 ≤ p.2) : ∀ l, good l → ∃ k, good k ∧ (∀ x, mps (yl k) x = mp p (mps (yl l) x)) ∧ lin (yl k) = (if p.2 = 0 then 1 else 0) + lin (yl l) ∧ ∀ r ∈ keys k, r = p ∨ r ∈ keys l
  | [], _ => ⟨[(p, 0)], ⟨hp, by simp [keys], trivial⟩, fun x => rfl, rfl, fun r hr => .inl (by simpa [keys] using hr)⟩
  | (q, m) :: l, h => by
    by_cases e : p = q
    · subst e
      refine ⟨(p, m + 1) :: l, h, fun x => ?_, ?_, fun r hr => .inr hr⟩
      · simp only [yl]
        rw [List.replicate_succ]
        rfl
      · simp only [yl]
        rw [List.replicate_succ]
        rfl
    · obtain ⟨k, h1, h2, h3, h4⟩ := put_in p hp l h.2.2
      refine ⟨(q, m) :: k, ⟨h.1, fun hq => ?_, h1⟩, fun x => ?_, ?_, fun r hr => ?_⟩
      · rcases h4 q hq with e2 | e2
        · exact e e2.symm
        · exact h.2.1 e2
      · simp only [yl]
        rw [mps_app, mps_app, h2, mps_mp]
      · simp only [yl]
        rw [lin_app, lin_app, h3]
        omega
      · rcases List.mem_cons.1 hr with e2 | e2
        · exact .inr (by rw [e2]; exact List.mem_cons_self)
        · rcases h4 r e2 with e3 | e3
          · exact .inl e3
          · exact .inr (List.mem_cons_of_mem _ e3)
theorem grouped : ∀ ps : List (Rat × Rat), (∀ p ∈ ps, 0 ≤ p.2) → ∃ g, good g ∧ (∀ x, mps (yl g) x = mps ps x) ∧ lin (yl g) = lin ps
  | [], _ => ⟨[], trivial, fun _ => rfl, rfl⟩
  | p :: l, h => by
    obtain ⟨g, h1, h2, h3⟩ := grouped l (fun r hr => h r (List.mem_cons_of_mem _ hr))
    obtain ⟨k, k1, k2, k3, _⟩ := put_in p (h p List.mem_cons_self) g h1
    exact ⟨k, k1, fun x => by rw [k2, h2]; rfl, by rw [k3, h3]; rfl⟩
theorem hl_nn : ∀ g, good g → ∀ p ∈ hl g, 0 ≤ p.2
  | [], _, p, hp => by cases hp
  | (r, m) :: l, h, p, hp => by
    simp only [hl] at hp
    rcases List.mem_append.1 hp with e | e
    · rw [(List.mem_replicate.1 e).2]; exact h.1
    · exact hl_nn l h.2.2 p e
theorem mps_len : ∀ (ps : List (Rat × Rat)) (x : Po), Fs x → x ≠ zr → len x + ps.length ≤ len (mps ps x)
  | [], x, hx, h0 => Nat.le_refl _
  | p :: l, x, hx, h0 => by
    have h1 := mps_len l x hx h0
    have h2 := (mp_len p (hx.mps l) (mps_ne hx h0 l)).1
    have := mk_pos p
    simp only [mps, List.length_cons]
    omega
theorem gc_sm {x y s : Po} {k l : Rat} (hk : k ≠ 0) (hl : l ≠ 0) (h : Gc (sm k x) (sm l y) s) : Gc x y s := fun g => by
  rw [← h g]
  exact ⟨fun e => ⟨e.1.sm k, e.2.sm l⟩, fun e => ⟨e.1.of_smr hk, e.2.of_smr hl⟩⟩
theorem roots_is : ∀ (n : Nat) (ps : List (Rat × Rat)) (κ : Rat) (s : Po) (d : Nat) (c : Int), (∀ p ∈ ps, 0 ≤ p.2) → κ ≠ 0 → s = sm κ (mps ps on) → PL s d → RRtF n s d c → c = (lin ps : Nat) := by
  intro n
  have base : ∀ (ps : List (Rat × Rat)) (κ : Rat) (s : Po) (d : Nat) (c : Int), κ ≠ 0 → s = sm κ (mps ps on) → PL s d → (d ≤ 1 ∧ c = 0) → c = (lin ps : Nat) := by
    rintro ps κ s d c hκ e hs ⟨h1, rfl⟩
    have h2 := mps_len ps on on_fs on_ne
    rw [on_pl.len] at h2
    have h3 := hs.len
    rw [e, len_sm (on_fs.mps ps) hκ] at h3
    have : ps = [] := List.eq_nil_of_length_eq_zero (by omega)
    rw [this]
    rfl
  induction n with
  | zero => exact fun ps κ s d c _ hκ e hs h => base ps κ s d c hκ e hs h
  | succ n ih =>
    intro ps κ s d c hps hκ e hs h
    rcases h with h | ⟨hd, u, s2, d2, c', k1, k2, hk1, hk2, ⟨nj, hj⟩, hc, hr⟩
    · exact base ps κ s d c hκ e hs h
    · obtain ⟨g, hg, hy, hlin⟩ := grouped ps hps
      have hk10 : k1 ≠ 0 := by grind
      have hk20 : k2 ≠ 0 := by grind
      obtain ⟨j1, j2, j3⟩ := jmp_is nj _ d _ (d - 1) u s2 d2 (PL_sm hk10 hs) (PL_sm hk20 (PL_slope hs)) (by omega) hj
      have es : s = sm κ (mps (hl g) (gw g)) := by rw [e, ← hy, y_is]
      have eds : slopeP s = sm κ (mps (hl g) (gd g)) := by rw [e, dv_sm, ← hy, dy_is]
      have fs := hs.fs
      have fds := dv_fs fs
      have e1 : idx (sm k1 s) (sm k2 (slopeP s)) = (lk g : Nat) := by
        rw [idx_sml fs (fds.sm k2) hk10, idx_smr fs fds, sgn_pos hk1, sgn_pos hk2, Int.one_mul, Int.one_mul, eds, es,
          idx_sml ((gw_fs g).mps _) (((gd_fs g).mps _).sm κ) hκ, idx_smr ((gw_fs g).mps _) ((gd_fs g).mps _), ← Int.mul_assoc, sgn_sq hκ, Int.one_mul, idx_mps (gw_fs g) (gd_fs g), idx_g g hg]
      have hu : u = (lk g : Nat) := j1.trans e1
      have j4 : Gc (mps (hl g) (gw g)) (mps (hl g) (gd g)) s2 := by
        have h1 := gc_sm hk10 hk20 (show Gc (sm k1 s) (sm k2 (slopeP s)) s2 from j3)
        rw [es] at h1
        rw [← es, eds, es] at h1
        exact gc_sm hκ hκ h1
      obtain ⟨k, hk, e2⟩ := gc_mps (gw_fs g) (gd_fs g) (gw_ne g) (cop_g hg) j2.fs j4
      have h3 := ih (hl g) k s2 d2 c' (hl_nn g hg) hk e2 j2 hr
      have h4 := lin_y g
      omega
end Go.Proofs.YtklkpkkjakllfaaGreatDoor.K
namespace Go.Proofs.YtklkpkkjakllfaaGreatDoor.K
def sg4 (k : Nat) : Rat := if 2 ≤ k % 4 then -1 else 1
theorem half_at {p : Po} {n : Nat} (o : Nat) (h : PL p n) (i : Nat) : halfP p n o i = if (n - 1 - i) % 2 = o then sg4 (n - 1 - i) * p i else 0 := by
  unfold halfP sg4
  by_cases k : (n - 1 - i) % 2 = o
  · rw [if_pos k]
    by_cases hi : i < n
    · rw [if_pos ⟨hi, k⟩]
      split <;> grind
    · rw [if_neg (fun e => hi e.1), h.1 i (by omega), Rat.mul_zero]
  · rw [if_neg (fun e => k e.2), if_neg k]
theorem sg4_2 (k : Nat) : sg4 (k + 2) = -sg4 k := by
  unfold sg4
  by_cases h : 2 ≤ k % 4
  · rw [if_pos h, if_neg (by omega)]; rfl
  · rw [if_neg h, if_pos (by omega)]
theorem sg4_e {k : Nat} (h : k % 2 = 0) : sg4 (k + 1) = sg4 k := by
  unfold sg4
  by_cases h2 : 2 ≤ k % 4
  · rw [if_pos h2, if_pos (by omega)]
  · rw [if_neg h2, if_neg (by omega)]
theorem sg4_o {k : Nat} (h : k % 2 = 1) : sg4 (k + 1) = -sg4 k := by
  unfold sg4
  by_cases h2 : 2 ≤ k % 4
  · rw [if_pos h2, if_neg (by omega)]; rfl
  · rw [if_neg h2, if_pos (by omega)]
theorem half_lin0 {p : Po} {n : Nat} (x : Rat) (hp : PL p n) (hn : 0 < n) : halfP (ln 1 (-x) p) (n + 1) 0 = ad (ln 1 0 (halfP p n 0)) (sm x (halfP p n 1)) := by
  have hq := (PL_ln (a := 1) (-x) (by decide) hp hn).1
  funext i
  rw [half_at 0 hq]
  show _ = ln 1 0 (halfP p n 0) i + x * halfP p n 1 i
  rw [ln_at, ln_at, half_at 0 hp, half_at 1 hp]
  rcases Nat.lt_or_ge i n with hi | hi
  · obtain ⟨j, hj⟩ : ∃ j, n - 1 - i = j := ⟨_, rfl⟩
    have e1 : n + 1 - 1 - i = j + 1 := by omega
    rw [e1, hj]
    have e2 : sh (halfP p n 0) i = if (j + 1) % 2 = 0 then sg4 (j + 1) * sh p i else 0 := by
      cases i with
      | zero => rw [sh_0, sh_0, Rat.mul_zero, ite_self]
      | succ i => rw [sh_succ, sh_succ, half_at 0 hp, show n - 1 - i = j + 1 by omega]
    rw [e2]
    by_cases k : j % 2 = 0
    · rw [if_neg (by omega), if_neg (by omega), if_pos k, if_neg (by omega)]
      grind
    · rw [if_pos (by omega), if_pos (by omega), if_neg k, if_pos (by omega), sg4_o (by omega)]
      grind
  · have e0 : p i = 0 := hp.1 i hi
    rw [e0]
    obtain ⟨j, rfl⟩ : ∃ j, i = j + 1 := ⟨i - 1, by omega⟩
    rw [sh_succ, sh_succ, half_at 0 hp, show n + 1 - 1 - (j + 1) = n - 1 - j by omega]
    split <;> split <;> split <;> grind
theorem half_lin1 {p : Po} {n : Nat} (x : Rat) (hp : PL p n) (hn : 0 < n) : halfP (ln 1 (-x) p) (n + 1) 1 = sb (ln 1 0 (halfP p n 1)) (sm x (halfP p n 0)) := by
  have hq := (PL_ln (a := 1) (-x) (by decide) hp hn).1
  funext i
  rw [half_at 1 hq]
  show _ = ln 1 0 (halfP p n 1) i - x * halfP p n 0 i
  rw [ln_at, ln_at, half_at 0 hp, half_at 1 hp]
  rcases Nat.lt_or_ge i n with hi | hi
  · obtain ⟨j, hj⟩ : ∃ j, n - 1 - i = j := ⟨_, rfl⟩
    have e1 : n + 1 - 1 - i = j + 1 := by omega
    rw [e1, hj]
    have e2 : sh (halfP p n 1) i = if (j + 1) % 2 = 1 then sg4 (j + 1) * sh p i else 0 := by
      cases i with
      | zero => rw [sh_0, sh_0, Rat.mul_zero, ite_self]
      | succ i => rw [sh_succ, sh_succ, half_at 1 hp, show n - 1 - i = j + 1 by omega]
    rw [e2]
    by_cases k : j % 2 = 0
    · rw [if_pos (by omega), if_pos (by omega), if_neg (by omega), if_pos k, sg4_e k]
      grind
    · rw [if_neg (by omega), if_neg (by omega), if_pos (by omega), if_neg k]
      grind
  · have e0 : p i = 0 := hp.1 i hi
    rw [e0]
    obtain ⟨j, rfl⟩ : ∃ j, i = j + 1 := ⟨i - 1, by omega⟩
    rw [sh_succ, sh_succ, half_at 1 hp, show n + 1 - 1 - (j + 1) = n - 1 - j by omega]
    split <;> split <;> split <;> grind
def qd (x y : Rat) (p : Po) : Po := ad (sh (sh p)) (ad (sm (-2 * x) (sh p)) (sm (x * x + y * y) p))
theorem qd_at (x y : Rat) (p : Po) (i : Nat) : qd x y p i = sh (sh p) i + (-2 * x * sh p i + (x * x + y * y) * p i) := rfl
theorem qd_dq (x y : Rat) (p : Po) : qd x y p = dq (-x) y p := by
  funext i
  rw [qd_at, dq_at]
  grind
theorem PL_qd {p : Po} {n : Nat} (x y : Rat) (hp : PL p n) (hn : 0 < n) : PL (qd x y p) (n + 2) := by
  rw [qd_dq]
  have h0 : p ≠ zr := fun e => by rw [e] at hp; have := hp.len; rw [len_zr] at this; omega
  have h1 := (len_dq (-x) y hp.fs h0).1
  rw [hp.len] at h1
  have := (hp.fs.dq (-x) y).len
  rw [h1] at this
  exact this
theorem sh_half {p : Po} {n : Nat} (hp : PL p n) (o : Nat) (i : Nat) : sh (halfP p n o) i = if (n - i) % 2 = o then sg4 (n - i) * sh p i else 0 := by
  cases i with
  | zero => rw [sh_0, sh_0, Rat.mul_zero, ite_self]
  | succ i => rw [sh_succ, sh_succ, half_at o hp, show n - 1 - i = n - (i + 1) by omega]
theorem sh2_half {p : Po} {n : Nat} (hp : PL p n) (o : Nat) (i : Nat) : sh (sh (halfP p n o)) i = if (n + 1 - i) % 2 = o then sg4 (n + 1 - i) * sh (sh p) i else 0 := by
  cases i with
  | zero => rw [sh_0, sh_0, Rat.mul_zero, ite_self]
  | succ i => rw [sh_succ, sh_succ, sh_half hp, show n - i = n + 1 - (i + 1) by omega]
theorem sh_out {p : Po} {n : Nat} (hp : PL p n) {i : Nat} (hi : n < i) : sh p i = 0 := by
  obtain ⟨j, rfl⟩ : ∃ j, i = j + 1 := ⟨i - 1, by omega⟩
  rw [sh_succ, hp.1 j (by omega)]
theorem two_steps (x y : Rat) (X Y : Po) :
    ad (ln 1 (-y) (ad (ln 1 y X) (sm x Y))) (sm x (sb (ln 1 y Y) (sm x X))) = ad (sh (sh X)) (ad (sm (-(x * x + y * y)) X) (sm (2 * x) (sh Y))) ∧
    sb (ln 1 (-y) (sb (ln 1 y Y) (sm x X))) (sm x (ad (ln 1 y X) (sm x Y))) = ad (sh (sh Y)) (ad (sm (-(x * x + y * y)) Y) (sm (-(2 * x)) (sh X))) := by
  have e1 : ∀ (z : Po) (i : Nat), ln 1 (-y) (ln 1 y z) i = sh (sh z) i - y * y * z i := by
    intro z i
    unfold ln
    rw [sh_ad, sh_sm, sh_sm]
    simp only [ad, sm]
    grind
  constructor
  · rw [ln_ad, ln_sm]
    funext i
    show ln 1 (-y) (ln 1 y X) i + x * ln 1 (-y) Y i + x * (ln 1 y Y i - x * X i) = sh (sh X) i + (-(x * x + y * y) * X i + 2 * x * sh Y i)
    rw [e1, ln_at, ln_at]
    grind
  · rw [ln_sb, ln_sm]
    funext i
    show ln 1 (-y) (ln 1 y Y) i - x * ln 1 (-y) X i - x * (ln 1 y X i + x * Y i) = sh (sh Y) i + (-(x * x + y * y) * Y i + -(2 * x) * sh X i)
    rw [e1, ln_at, ln_at]
    grind
theorem half_qd {p : Po} {n : Nat} (x y : Rat) (hp : PL p n) (hn : 0 < n) :
    halfP (qd x y p) (n + 2) 0 = ad (sh (sh (halfP p n 0))) (ad (sm (-(x * x + y * y)) (halfP p n 0)) (sm (2 * x) (sh (halfP p n 1)))) ∧
    halfP (qd x y p) (n + 2) 1 = ad (sh (sh (halfP p n 1))) (ad (sm (-(x * x + y * y)) (halfP p n 1)) (sm (-(2 * x)) (sh (halfP p n 0)))) := by
  have hq := PL_qd x y hp hn
  constructor
  · funext i
    rw [half_at 0 hq]
    show _ = sh (sh (halfP p n 0)) i + (-(x * x + y * y) * halfP p n 0 i + 2 * x * sh (halfP p n 1) i)
    rw [qd_at, sh2_half hp, sh_half hp, half_at 0 hp, show n + 2 - 1 - i = n + 1 - i by omega]
    generalize x * x + y * y = D
    rcases Nat.lt_or_ge i n with hi | hi
    · obtain ⟨j, hj⟩ : ∃ j, n - 1 - i = j := ⟨_, rfl⟩
      rw [hj, show n + 1 - i = j + 2 by omega, show n - i = j + 1 by omega, sg4_2]
      by_cases k : j % 2 = 0
      · rw [if_pos (by omega), if_pos (by omega), if_pos k, if_pos (by omega), sg4_e k]
        grind
      · rw [if_neg (by omega), if_neg (by omega), if_neg k, if_neg (by omega)]
        grind
    · rw [hp.1 i hi]
      by_cases hi2 : i = n
      · subst hi2
        rw [show i + 1 - i = 1 by omega, show i - i = 0 by omega]
        simp
        grind
      · rw [sh_out hp (show n < i by omega)]
        split <;> split <;> split <;> grind
  · funext i
    rw [half_at 1 hq]
    show _ = sh (sh (halfP p n 1)) i + (-(x * x + y * y) * halfP p n 1 i + -(2 * x) * sh (halfP p n 0) i)
    rw [qd_at, sh2_half hp, sh_half hp, half_at 1 hp, show n + 2 - 1 - i = n + 1 - i by omega]
    generalize x * x + y * y = D
    rcases Nat.lt_or_ge i n with hi | hi
    · obtain ⟨j, hj⟩ : ∃ j, n - 1 - i = j := ⟨_, rfl⟩
      rw [hj, show n + 1 - i = j + 2 by omega, show n - i = j + 1 by omega, sg4_2]
      by_cases k : j % 2 = 0
      · rw [if_neg (by omega), if_neg (by omega), if_neg (by omega), if_neg (by omega)]
        grind
      · rw [if_pos (by omega), if_pos (by omega), if_pos (by omega), if_pos (by omega), sg4_o (by omega)]
        grind
    · rw [hp.1 i hi]
      by_cases hi2 : i = n
      · subst hi2
        rw [show i + 1 - i = 1 by omega, show i - i = 0 by omega]
        simp [sg4]
        grind
      · rw [sh_out hp (show n < i by omega)]
        split <;> split <;> split <;> grind
def Kn (p : Po) (n l m r : Nat) : Prop := PL p n ∧ n = l + m + r + 1 ∧ Nv (halfP p n 0) (halfP p n 1) n ((l : Int) - (r : Int)) m
def addS (x : Rat) (k : Nat) (s : Int) : Nat := if sgn1 x = s then k else 0
theorem kn_start {k : Rat} (hk : k ≠ 0) : Kn (sm k on) 1 0 0 0 := by
  have hp : PL (sm k on) 1 := PL_sm hk on_pl
  refine ⟨hp, rfl, ?_⟩
  have e0 : halfP (sm k on) 1 0 = sm k on := by
    funext i
    rw [half_at 0 hp, show 1 - 1 - i = 0 by omega, if_pos (by rfl)]
    show (if 2 ≤ 0 % 4 then (-1 : Rat) else 1) * _ = _
    rw [if_neg (by decide), Rat.one_mul]
  have e1 : halfP (sm k on) 1 1 = zr := by
    funext i
    rw [half_at 1 hp, show 1 - 1 - i = 0 by omega, if_neg (by decide)]
    rfl
  rw [e0, e1]
  exact nv_start hk
theorem kn_lin {p : Po} {n l m r : Nat} (x : Rat) (h : Kn p n l m r) : Kn (ln 1 (-x) p) (n + 1) (l + addS x 1 (-1)) (m + addS x 1 0) (r + addS x 1 1) := by
  obtain ⟨hp, hn, hv⟩ := h
  have h1 := nv_step 0 x hv
  rw [← half_lin0 x hp (by omega), ← half_lin1 x hp (by omega)] at h1
  refine ⟨(PL_ln (a := 1) (-x) (by decide) hp (by omega)).1, ?_, ?_⟩
  · unfold addS
    by_cases hx : x = 0
    · rw [hx, sgn_zero]; simp; omega
    · rcases sgn_cases hx with k | k <;> rw [k.2] <;> simp <;> omega
  · unfold addS
    by_cases hx : x = 0
    · rw [if_pos hx, hx, sgn_zero] at h1
      rw [hx, sgn_zero]
      simpa using h1
    · rw [if_neg hx] at h1
      rcases sgn_cases hx with k | k
      · rw [k.2] at h1 ⊢
        have e : ((l + 0 : Nat) : Int) - ((r + 1 : Nat) : Int) = (l : Int) - (r : Int) - 1 := by omega
        show Nv _ _ (n + 1) (((l + 0 : Nat) : Int) - ((r + 1 : Nat) : Int)) (m + 0)
        rw [e]
        exact h1
      · rw [k.2] at h1 ⊢
        have e : ((l + 1 : Nat) : Int) - ((r + 0 : Nat) : Int) = (l : Int) - (r : Int) - -1 := by omega
        show Nv _ _ (n + 1) (((l + 1 : Nat) : Int) - ((r + 0 : Nat) : Int)) (m + 0)
        rw [e]
        exact h1
theorem kn_quad {p : Po} {n l m r : Nat} (x y : Rat) (h : Kn p n l m r) : Kn (qd x y p) (n + 2) (l + addS x 2 (-1)) (m + addS x 2 0) (r + addS x 2 1) := by
  obtain ⟨hp, hn, hv⟩ := h
  have h1 := nv_step (-y) x (nv_step y x hv)
  obtain ⟨t1, t2⟩ := two_steps x y (halfP p n 0) (halfP p n 1)
  obtain ⟨k1, k2⟩ := half_qd x y hp (by omega)
  rw [t1, t2, ← k1, ← k2] at h1
  refine ⟨PL_qd x y hp (by omega), ?_, ?_⟩
  · unfold addS
    by_cases hx : x = 0
    · rw [hx, sgn_zero]; simp; omega
    · rcases sgn_cases hx with k | k <;> rw [k.2] <;> simp <;> omega
  · unfold addS
    by_cases hx : x = 0
    · rw [if_pos hx, if_pos hx, hx, sgn_zero] at h1
      rw [hx, sgn_zero]
      simpa using h1
    · rw [if_neg hx, if_neg hx] at h1
      rcases sgn_cases hx with k | k
      · rw [k.2] at h1 ⊢
        have e : ((l + 0 : Nat) : Int) - ((r + 2 : Nat) : Int) = (l : Int) - (r : Int) - 1 - 1 := by omega
        show Nv _ _ (n + 2) (((l + 0 : Nat) : Int) - ((r + 2 : Nat) : Int)) (m + 0)
        rw [e]
        exact h1
      · rw [k.2] at h1 ⊢
        have e : ((l + 2 : Nat) : Int) - ((r + 0 : Nat) : Int) = (l : Int) - (r : Int) - -1 - -1 := by omega
        show Nv _ _ (n + 2) (((l + 2 : Nat) : Int) - ((r + 0 : Nat) : Int)) (m + 0)
        rw [e]
        exact h1
theorem kn_count {p : Po} {n l m r : Nat} {a b c : Int} (h : Kn p n l m r) (k : CntV p n a b c) : a = l ∧ b = m ∧ c = r := by
  obtain ⟨hp, hn, fX, fY, hX, hY, hu, ps, X0, Y0, hps, f0, g0, n0, hc, eX, eY, hl⟩ := h
  obtain ⟨m', u, r', s, d, k1, k2, h1, hk1, hk2, ⟨nj, hj⟩, ⟨nr, hr⟩, ea, eb, ec⟩ := k
  have hk10 : k1 ≠ 0 := by grind
  have hk20 : k2 ≠ 0 := by grind
  have pX : PL (halfP p n 0) n := by have := fX.len; rwa [hX] at this
  have hm' : m' < n := by rw [h1.len] at hY; exact hY
  obtain ⟨j1, j2, j3⟩ := jmp_is nj _ n _ m' u s d (PL_sm hk10 pX) (PL_sm hk20 h1) hm' hj
  have e1 : u = (l : Int) - (r : Int) := by
    rw [j1]
    show idx (sm k1 (halfP p n 0)) (sm k2 (halfP p n 1)) = _
    rw [idx_sml fX (fY.sm k2) hk10, idx_smr fX fY, sgn_pos hk1, sgn_pos hk2, hu]
    omega
  have j4 := gc_sm hk10 hk20 (show Gc (sm k1 (halfP p n 0)) (sm k2 (halfP p n 1)) s from j3)
  rw [eX, eY] at j4
  obtain ⟨κ, hκ, e2⟩ := gc_mps f0 g0 n0 hc j2.fs j4
  have e3 := roots_is nr ps κ s d r' hps hκ e2 j2 hr
  rw [hl] at e3
  have e4 : (n : Int) - 1 - r' + u = 2 * (l : Int) := by omega
  have e5 : (n : Int) - 1 - r' - u = 2 * (r : Int) := by omega
  rw [e4] at ea
  rw [e5] at ec
  refine ⟨?_, by omega, ?_⟩
  · rw [ea, Int.mul_tdiv_cancel_left _ (by decide)]
  · rw [ec, Int.mul_tdiv_cancel_left _ (by decide)]
end Go.Proofs.YtklkpkkjakllfaaGreatDoor.K
