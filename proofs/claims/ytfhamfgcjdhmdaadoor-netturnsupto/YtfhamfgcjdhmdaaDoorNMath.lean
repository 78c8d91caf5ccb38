/- Nets as lists of pairs: what joining does, and why loops come back. Plain mathematics. -/
import Derived.WalkKit
namespace Go.Proofs.YtfhamfgcjdhmdaaDoor

abbrev Pr := Nat × Nat

/-- Of each node the least one that is joined to it; a and b are joined now. -/
def joinF (l : Nat → Nat) (p : Pr) : Nat → Nat := fun x => if l x = max (l p.1) (l p.2) then min (l p.1) (l p.2) else l x

def labF (E : List Pr) : Nat → Nat := E.foldl joinF id

theorem labF_snoc (E : List Pr) (p : Pr) : labF (E ++ [p]) = joinF (labF E) p := by simp [labF]

theorem joinF_same (l : Nat → Nat) (p : Pr) (h : l p.1 = l p.2) : joinF l p = l := by
  funext x
  unfold joinF
  split
  · rename_i h1
    rw [h1]
    omega
  · rfl

theorem joinF_eq (l : Nat → Nat) (p : Pr) (a b : Nat) : joinF l p a = joinF l p b ↔ l a = l b ∨ (l a = l p.1 ∧ l b = l p.2) ∨ (l a = l p.2 ∧ l b = l p.1) := by
  unfold joinF
  generalize l a = x, l b = y, l p.1 = u, l p.2 = v
  constructor
  · intro h
    split at h <;> split at h <;> omega
  · intro h
    split <;> split <;> omega

/-- A sum over pairs, each with its factor. -/
def comb : List Int → List Pr → (Nat → Int) → Int
  | c :: cs, p :: ps, s => c * (s p.1 - s p.2) + comb cs ps s
  | _, _, _ => 0

theorem comb_zero (E : List Pr) (s : Nat → Int) : comb (List.replicate E.length 0) E s = 0 := by
  induction E with
  | nil => rfl
  | cons p r ih => simp [List.replicate_succ, comb, ih]

theorem comb_append (c d : List Int) (E F : List Pr) (s : Nat → Int) (h : c.length = E.length) : comb (c ++ d) (E ++ F) s = comb c E s + comb d F s := by
  induction c generalizing E with
  | nil =>
    have : E = [] := List.eq_nil_of_length_eq_zero h.symm
    subst this
    simp [comb]
  | cons x r ih =>
    cases E with
    | nil => simp at h
    | cons p q =>
      simp only [List.cons_append, comb, ih q (by simpa using h)]
      omega

theorem comb_add (c d : List Int) (E : List Pr) (s : Nat → Int) (h : c.length = E.length) (k : d.length = E.length) : comb (List.zipWith (· + ·) c d) E s = comb c E s + comb d E s := by
  induction E generalizing c d with
  | nil =>
    have : c = [] := List.eq_nil_of_length_eq_zero h
    subst this
    simp [comb]
  | cons p q ih =>
    match c, d with
    | [], _ => simp at h
    | _, [] => simp at k
    | x :: c, y :: d =>
      simp only [List.zipWith_cons_cons, comb, ih c d (by simpa using h) (by simpa using k), Int.add_mul]
      omega

theorem comb_neg (c : List Int) (E : List Pr) (s : Nat → Int) : comb (c.map (- ·)) E s = - comb c E s := by
  induction E generalizing c with
  | nil => cases c <;> simp [comb]
  | cons p q ih =>
    match c with
    | [] => simp [comb]
    | x :: c =>
      simp only [List.map_cons, comb, ih c, Int.neg_mul]
      omega

/-- What is joined is a sum of what joined it. -/
theorem span (E : List Pr) : ∀ a b, labF E a = labF E b → ∃ c : List Int, c.length = E.length ∧ ∀ s : Nat → Int, s a - s b = comb c E s := by
  have key : ∀ (n : Nat) (E : List Pr), E.length = n → ∀ a b, labF E a = labF E b → ∃ c : List Int, c.length = E.length ∧ ∀ s : Nat → Int, s a - s b = comb c E s := by
    intro n
    induction n with
    | zero =>
      intro E h a b hl
      have : E = [] := List.eq_nil_of_length_eq_zero h
      subst this
      have : a = b := hl
      subst this
      exact ⟨[], rfl, fun s => by simp [comb]⟩
    | succ n ih =>
      intro E h a b hl
      have hne : E ≠ [] := by intro e; subst e; simp at h
      obtain ⟨F, p, rfl⟩ : ∃ F p, E = F ++ [p] := ⟨E.dropLast, E.getLast hne, (List.dropLast_concat_getLast hne).symm⟩
      have hF : F.length = n := by simpa using h
      rw [labF_snoc, joinF_eq] at hl
      rcases hl with hl | ⟨h1, h2⟩ | ⟨h1, h2⟩
      · obtain ⟨c, hc, hs⟩ := ih F hF a b hl
        exact ⟨c ++ [0], by simp [hc], fun s => by rw [comb_append _ _ _ _ _ hc, ← hs s]; simp [comb]⟩
      · obtain ⟨c, hc, hs⟩ := ih F hF _ _ h1
        obtain ⟨d, hd, ht⟩ := ih F hF _ _ h2
        refine ⟨List.zipWith (· + ·) c (d.map (- ·)) ++ [1], by simp [hc, hd], fun s => ?_⟩
        rw [comb_append _ _ _ _ _ (by simp [hc, hd]), comb_add _ _ _ _ hc (by simp [hd]), comb_neg, ← hs s, ← ht s]
        simp only [comb]
        omega
      · obtain ⟨c, hc, hs⟩ := ih F hF _ _ h1
        obtain ⟨d, hd, ht⟩ := ih F hF _ _ h2
        refine ⟨List.zipWith (· + ·) c (d.map (- ·)) ++ [-1], by simp [hc, hd], fun s => ?_⟩
        rw [comb_append _ _ _ _ _ (by simp [hc, hd]), comb_add _ _ _ _ hc (by simp [hd]), comb_neg, ← hs s, ← ht s]
        simp only [comb]
        omega
  exact fun a b => key E.length E rfl a b

theorem lab_mono (E F : List Pr) (a b : Nat) (h : labF E a = labF E b) : labF (E ++ F) a = labF (E ++ F) b := by
  have key : ∀ (F : List Pr) (l : Nat → Nat), l a = l b → F.foldl joinF l a = F.foldl joinF l b := by
    intro F
    induction F with
    | nil => intro l h; exact h
    | cons p q ih => intro l h; exact ih _ ((joinF_eq l p a b).2 (.inl h))
  unfold labF at h ⊢
  rw [List.foldl_append]
  exact key F _ h

/-- What joins is joined. -/
theorem lab_mem (E : List Pr) (p : Pr) (h : p ∈ E) : labF E p.1 = labF E p.2 := by
  obtain ⟨X, Y, rfl⟩ := List.append_of_mem h
  have : X ++ p :: Y = (X ++ [p]) ++ Y := by simp
  rw [this]
  apply lab_mono
  rw [labF_snoc, joinF_eq]
  exact .inr (.inl ⟨rfl, rfl⟩)

/-- Each of them joins what those ahead of it don't. -/
def Forest (E : List Pr) : Prop := ∀ X p Y, E = X ++ p :: Y → labF X p.1 ≠ labF X p.2

theorem Forest.front {E : List Pr} {p : Pr} (h : Forest (E ++ [p])) : Forest E := fun X q Y e => h X q (Y ++ [p]) (by rw [e]; simp)
theorem Forest.last {E : List Pr} {p : Pr} (h : Forest (E ++ [p])) : labF E p.1 ≠ labF E p.2 := h E p [] rfl
theorem Forest.nil : Forest [] := fun X p Y e => by simp at e
theorem Forest.snoc {E : List Pr} {p : Pr} (h : Forest E) (hp : labF E p.1 ≠ labF E p.2) : Forest (E ++ [p]) := fun X q Y e => by
  rcases List.eq_nil_or_concat Y with rfl | ⟨Z, z, rfl⟩
  · obtain ⟨rfl, e2⟩ := List.append_inj' e (by simp)
    simp only [List.cons.injEq, and_true] at e2
    subst e2
    exact hp
  · have e1 : E ++ [p] = (X ++ q :: Z) ++ [z] := by rw [e]; simp
    obtain ⟨e3, _⟩ := List.append_inj' e1 (by simp)
    exact h X q Z e3

/-- 1 of the nodes that are joined to a. -/
def side (E : List Pr) (a x : Nat) : Int := if labF E x = labF E a then 1 else 0

theorem comb_side (c : List Int) (E F : List Pr) (a : Nat) (h : ∀ p ∈ F, p ∈ E) : comb c F (side E a) = 0 := by
  induction F generalizing c with
  | nil => cases c <;> rfl
  | cons p q ih =>
    match c with
    | [] => rfl
    | x :: c =>
      have e := lab_mem E p (h p (by simp))
      simp only [comb, ih c (fun r hr => h r (by simp [hr])), side, e]
      simp

/-- No sum of a forest's pairs is nothing, but the one of noughts. -/
theorem indep : ∀ (n : Nat) (E : List Pr) (d : List Int), E.length = n → d.length = E.length → Forest E → (∀ s, comb d E s = 0) → ∀ x ∈ d, x = 0 := by
  intro n
  induction n with
  | zero =>
    intro E d h hd _ _ x hx
    have : d = [] := List.eq_nil_of_length_eq_zero (by omega)
    subst this
    simp at hx
  | succ n ih =>
    intro E d h hd hf hs
    have hne : E ≠ [] := by intro e; subst e; simp at h
    have hnd : d ≠ [] := by intro e; subst e; simp at hd; omega
    obtain ⟨F, p, rfl⟩ : ∃ F p, E = F ++ [p] := ⟨E.dropLast, E.getLast hne, (List.dropLast_concat_getLast hne).symm⟩
    obtain ⟨c, y, rfl⟩ : ∃ c y, d = c ++ [y] := ⟨d.dropLast, d.getLast hnd, (List.dropLast_concat_getLast hnd).symm⟩
    have hc : c.length = F.length := by simpa using hd
    have hy : y = 0 := by
      have h1 := hs (side F p.1)
      rw [comb_append _ _ _ _ _ hc, comb_side c F F p.1 (fun _ h => h)] at h1
      have h2 := hf.last
      simp only [comb, side, if_true, if_neg (fun e : labF F p.2 = labF F p.1 => h2 e.symm)] at h1
      omega
    subst hy
    have h3 : ∀ s, comb c F s = 0 := by
      intro s
      have h1 := hs s
      rw [comb_append _ _ _ _ _ hc] at h1
      simp only [comb] at h1
      omega
    intro x hx
    rcases List.mem_append.1 hx with hx | hx
    · exact ih F c (by simpa using h) hc hf.front h3 x hx
    · simpa using hx

/-- Without one of a forest's pairs its ends are apart. -/
theorem apart_without {X Y : List Pr} {p : Pr} (hf : Forest (X ++ p :: Y)) : labF (X ++ Y) p.1 ≠ labF (X ++ Y) p.2 := by
  intro e
  obtain ⟨c, hc, hs⟩ := span (X ++ Y) _ _ e
  obtain ⟨c1, c2, rfl, h1, h2⟩ : ∃ c1 c2, c = c1 ++ c2 ∧ c1.length = X.length ∧ c2.length = Y.length :=
    ⟨c.take X.length, c.drop X.length, (List.take_append_drop _ _).symm, by rw [List.length_take]; simp at hc; omega, by rw [List.length_drop]; simp at hc; omega⟩
  have h3 : ∀ s, comb (c1 ++ (-1) :: c2) (X ++ p :: Y) s = 0 := by
    intro s
    have h4 := hs s
    rw [comb_append _ _ _ _ _ h1] at h4 ⊢
    simp only [comb]
    omega
  have h5 := indep _ _ _ rfl (by simp [h1, h2]) hf h3 (-1) (by simp)
  omega

/-- What a cut says of a pair. -/
def cutOf (X Y : List Pr) (p e : Pr) : Int := side (X ++ Y) p.1 e.1 - side (X ++ Y) p.1 e.2

theorem cut_self {X Y : List Pr} {p : Pr} (hf : Forest (X ++ p :: Y)) : side (X ++ Y) p.1 p.1 - side (X ++ Y) p.1 p.2 = 1 := by
  have := apart_without hf
  unfold side
  rw [if_pos rfl, if_neg (fun e => this e.symm)]
  rfl

/-- All cuts of a forest, of one pair: X is what lies ahead. -/
def cutsAt (X : List Pr) : List Pr → Pr → List Int
  | [], _ => []
  | p :: Y, e => cutOf X Y p e :: cutsAt (X ++ [p]) Y e

theorem cutsAt_length (X F : List Pr) (e : Pr) : (cutsAt X F e).length = F.length := by
  induction F generalizing X with
  | nil => rfl
  | cons p Y ih => simp [cutsAt, ih]

/-- The factors of what is joined are what the cuts say. -/
theorem comb_cuts (E : List Pr) (hf : Forest E) (e : Pr) (c : List Int) (hc : c.length = E.length) (hs : ∀ s, s e.1 - s e.2 = comb c E s) : c = cutsAt [] E e := by
  have key : ∀ (F X : List Pr) (c1 c2 : List Int), E = X ++ F → c = c1 ++ c2 → c1.length = X.length → c2.length = F.length → c2 = cutsAt X F e := by
    intro F
    induction F with
    | nil => intro X c1 c2 _ _ _ h; exact List.eq_nil_of_length_eq_zero h
    | cons p Y ih =>
      intro X c1 c2 h1 h2 h3 h4
      match c2 with
      | [] => simp at h4
      | x :: c2 =>
        have hx : x = cutOf X Y p e := by
          have h5 := hs (side (X ++ Y) p.1)
          rw [h1, h2, comb_append _ _ _ _ _ h3] at h5
          simp only [comb] at h5
          rw [comb_side c1 (X ++ Y) X p.1 (fun q hq => by simp [hq]), comb_side c2 (X ++ Y) Y p.1 (fun q hq => by simp [hq]), cut_self (by rw [← h1]; exact hf)] at h5
          unfold cutOf
          omega
        rw [hx, cutsAt, ih (X ++ [p]) (c1 ++ [x]) c2 (by rw [h1]; simp) (by rw [h2]; simp) (by simp [h3]) (by simpa using h4)]
  exact key E [] [] c rfl rfl rfl hc

/-- Each loop comes back, whatever is asked of the nodes. -/
theorem loop_back (E : List Pr) (hf : Forest E) (e : Pr) (he : labF E e.1 = labF E e.2) (s : Nat → Int) : s e.1 - s e.2 = comb (cutsAt [] E e) E s := by
  obtain ⟨c, hc, hs⟩ := span E e.1 e.2 he
  rw [← comb_cuts E hf e c hc hs]
  exact hs s

/-- The nodes that are the least ones of their islands. -/
def roots (n : Nat) (l : Nat → Nat) : Nat := (List.range n).countP (fun x => l x == x)

theorem lab_idem (E : List Pr) : ∀ x, labF E (labF E x) = labF E x := by
  have key : ∀ (F : List Pr) (l : Nat → Nat), (∀ x, l (l x) = l x) → ∀ x, F.foldl joinF l (F.foldl joinF l x) = F.foldl joinF l x := by
    intro F
    induction F with
    | nil => intro l h; exact h
    | cons p q ih =>
      intro l h
      refine ih _ fun x => ?_
      have h1 := h p.1
      have h2 := h p.2
      have h3 := h x
      unfold joinF
      by_cases hx : l x = max (l p.1) (l p.2)
      · rw [if_pos hx]
        rcases Nat.le_total (l p.1) (l p.2) with hle | hle
        · rw [Nat.min_eq_left hle, Nat.max_eq_right hle, h1]
          split <;> omega
        · rw [Nat.min_eq_right hle, Nat.max_eq_left hle, h2]
          split <;> omega
      · rw [if_neg hx, h3, if_neg hx]
  exact key E id (fun _ => rfl)

theorem lab_le (E : List Pr) : ∀ x, labF E x ≤ x := by
  have key : ∀ (F : List Pr) (l : Nat → Nat), (∀ x, l x ≤ x) → ∀ x, F.foldl joinF l x ≤ x := by
    intro F
    induction F with
    | nil => intro l h; exact h
    | cons p q ih =>
      intro l h
      refine ih _ fun x => ?_
      have := h x
      unfold joinF
      split <;> omega
  exact key E id (fun _ => Nat.le_refl _)

theorem countP_drop (n : Nat) (f g : Nat → Bool) (k : Nat) (hk : k < n) (h1 : f k = true) (h2 : g k = false) (h : ∀ x, x ≠ k → g x = f x) : (List.range n).countP g + 1 = (List.range n).countP f := by
  induction n with
  | zero => omega
  | succ n ih =>
    rw [List.range_succ, List.countP_append, List.countP_append]
    by_cases e : k = n
    · subst e
      have : (List.range k).countP g = (List.range k).countP f := by
        apply List.countP_congr
        intro x hx
        rw [h x (by have := List.mem_range.1 hx; omega)]
      simp [this, h1, h2]
    · have := ih (by omega)
      have e2 : g n = f n := h n (fun e3 => e e3.symm)
      simp only [List.countP_singleton, e2]
      omega

theorem roots_forest (n : Nat) : ∀ (k : Nat) (E : List Pr), E.length = k → Forest E → (∀ p ∈ E, p.1 < n ∧ p.2 < n) → roots n (labF E) + E.length = n := by
  intro k
  induction k with
  | zero =>
    intro E h _ _
    have : E = [] := List.eq_nil_of_length_eq_zero h
    subst this
    have : (List.range n).countP (fun x => labF [] x == x) = (List.range n).length := by
      rw [List.countP_eq_length]
      intro x _
      simp [labF]
    unfold roots
    rw [this]
    simp
  | succ k ih =>
    intro E h hf hn
    have hne : E ≠ [] := by intro e; subst e; simp at h
    obtain ⟨F, p, rfl⟩ : ∃ F p, E = F ++ [p] := ⟨E.dropLast, E.getLast hne, (List.dropLast_concat_getLast hne).symm⟩
    have h1 := ih F (by simpa using h) hf.front (fun q hq => hn q (by simp [hq]))
    have h2 := hf.last
    have h3 := hn p (by simp)
    have i1 := lab_idem F p.1
    have i2 := lab_idem F p.2
    have l1 := lab_le F p.1
    have l2 := lab_le F p.2
    have h4 := countP_drop n (fun x => labF F x == x) (fun x => labF (F ++ [p]) x == x) (max (labF F p.1) (labF F p.2)) (by omega) ?_ ?_ ?_
    · unfold roots at h1 ⊢
      simp only [List.length_append, List.length_singleton]
      omega
    · simp only [beq_iff_eq]
      rcases Nat.le_total (labF F p.1) (labF F p.2) with hle | hle
      · rw [Nat.max_eq_right hle, i2]
      · rw [Nat.max_eq_left hle, i1]
    · simp only [beq_eq_false_iff_ne]
      rw [labF_snoc]
      unfold joinF
      rcases Nat.le_total (labF F p.1) (labF F p.2) with hle | hle
      · rw [Nat.max_eq_right hle, i2, if_pos rfl]; omega
      · rw [Nat.max_eq_left hle, i1, if_pos rfl]; omega
    · intro x hx
      have i3 := lab_idem F x
      rw [labF_snoc]
      unfold joinF
      rw [Bool.eq_iff_iff]
      simp only [beq_iff_eq]
      split
      · rename_i hm
        constructor
        · intro e
          exfalso
          rcases Nat.le_total (labF F p.1) (labF F p.2) with hle | hle
          · rw [Nat.min_eq_left hle] at e
            rw [← e, i1, Nat.max_eq_right hle] at hm
            exact h2 hm
          · rw [Nat.min_eq_right hle] at e
            rw [← e, i2, Nat.max_eq_left hle] at hm
            exact h2 hm.symm
        · intro e
          omega
      · rfl
end Go.Proofs.YtfhamfgcjdhmdaaDoor
