/- Joining by rounds: of each node the least one that is joined to it. Plain mathematics. -/
import Derived.Test.YtfhamfgcjdhmdaaGreatDoorMNc
namespace Go.Proofs.YtfhamfgcjdhmdaaGreatDoor
set_option linter.unusedVariables false

/-- One part: both its ends get the lesser label. -/
def stepJ (l : Nat → Nat) (p : Pr) : Nat → Nat := fun x => if x = p.1 ∨ x = p.2 then min (l p.1) (l p.2) else l x

def roundJ (E : List Pr) (l : Nat → Nat) : Nat → Nat := E.foldl stepJ l

def roundsJ (E : List Pr) : Nat → Nat → Nat
  | 0 => id
  | k + 1 => roundJ E (roundsJ E k)

/-- A label lies in the node's own island, and not behind it. -/
def Within (E : List Pr) (l : Nat → Nat) : Prop := ∀ x, labF E (l x) = labF E x ∧ l x ≤ x

theorem Within.lo {E : List Pr} {l : Nat → Nat} (h : Within E l) (x : Nat) : labF E x ≤ l x := by
  have := lab_le E (l x)
  rw [(h x).1] at this
  exact this

theorem Within.step {E : List Pr} {l : Nat → Nat} (h : Within E l) {p : Pr} (hp : p ∈ E) : labF E (min (l p.1) (l p.2)) = labF E p.1 := by
  have e := lab_mem E p hp
  rcases Nat.le_total (l p.1) (l p.2) with hle | hle
  · rw [Nat.min_eq_left hle]; exact (h p.1).1
  · rw [Nat.min_eq_right hle, (h p.2).1]; exact e.symm

theorem step_within {E : List Pr} {l : Nat → Nat} (h : Within E l) {p : Pr} (hp : p ∈ E) : Within E (stepJ l p) := by
  intro x
  have e := lab_mem E p hp
  have hs := h.step hp
  unfold stepJ
  split
  · rename_i hx
    have h1 := (h p.1).2
    have h2 := (h p.2).2
    rcases hx with rfl | rfl
    · exact ⟨hs, by omega⟩
    · exact ⟨by rw [hs, e], by omega⟩
  · exact h x

theorem step_le {l : Nat → Nat} (p : Pr) (x : Nat) : stepJ l p x ≤ l x := by
  unfold stepJ
  split
  · rename_i hx
    rcases hx with rfl | rfl <;> omega
  · exact Nat.le_refl _

theorem round_within {E : List Pr} (F : List Pr) (hF : ∀ p ∈ F, p ∈ E) {l : Nat → Nat} (h : Within E l) : Within E (roundJ F l) := by
  induction F generalizing l with
  | nil => exact h
  | cons p r ih => exact ih (fun q hq => hF q (by simp [hq])) (step_within h (hF p (by simp)))

theorem round_le (F : List Pr) (l : Nat → Nat) (x : Nat) : roundJ F l x ≤ l x := by
  induction F generalizing l with
  | nil => exact Nat.le_refl _
  | cons p r ih => exact Nat.le_trans (ih _) (step_le p x)

theorem rounds_within (E : List Pr) (k : Nat) : Within E (roundsJ E k) := by
  induction k with
  | zero => exact fun x => ⟨rfl, Nat.le_refl _⟩
  | succ k ih => exact round_within E (fun _ h => h) ih

/-- What is right stays right. -/
theorem round_right {E : List Pr} (F : List Pr) (hF : ∀ p ∈ F, p ∈ E) {l : Nat → Nat} (h : Within E l) {x : Nat} (hx : l x = labF E x) : roundJ F l x = labF E x := by
  have h1 := round_le F l x
  have h2 := (round_within F hF h).lo x
  omega

/-- In a round what is joined to a right one gets right. -/
theorem round_edge {E : List Pr} (F : List Pr) (hF : ∀ p ∈ F, p ∈ E) {l : Nat → Nat} (h : Within E l) {p : Pr} (hp : p ∈ F) (hx : l p.1 = labF E p.1 ∨ l p.2 = labF E p.2) : roundJ F l p.1 = labF E p.1 ∧ roundJ F l p.2 = labF E p.2 := by
  induction F generalizing l with
  | nil => simp at hp
  | cons q r ih =>
    have hr : ∀ p ∈ r, p ∈ E := fun p hp => hF p (by simp [hp])
    have hq := hF q (by simp)
    have hs := step_within h hq
    rcases List.mem_cons.1 hp with rfl | hp
    · have e := lab_mem E p hq
      have l1 := h.lo p.1
      have l2 := h.lo p.2
      have hm : min (l p.1) (l p.2) = labF E p.1 := by omega
      have s1 : stepJ l p p.1 = labF E p.1 := by simp [stepJ, hm]
      have s2 : stepJ l p p.2 = labF E p.2 := by simp [stepJ, hm, e]
      exact ⟨round_right r hr hs s1, round_right r hr hs s2⟩
    · refine ih hr hs hp ?_
      have g1 := step_le (l := l) q p.1
      have g2 := step_le (l := l) q p.2
      have k1 := hs.lo p.1
      have k2 := hs.lo p.2
      rcases hx with hx | hx
      · left; omega
      · right; omega

/-- What all pairs leave alike is alike on an island. -/
theorem alike {E : List Pr} (s : Nat → Int) (h : ∀ p ∈ E, s p.1 = s p.2) (a b : Nat) (hab : labF E a = labF E b) : s a = s b := by
  obtain ⟨c, _, hc⟩ := span E a b hab
  have h0 := hc s
  have key : ∀ (F : List Pr) (c : List Int), (∀ p ∈ F, s p.1 = s p.2) → comb c F s = 0 := by
    intro F
    induction F with
    | nil => intro c _; cases c <;> rfl
    | cons p r ih =>
      intro c hF
      match c with
      | [] => rfl
      | x :: c =>
        have e := hF p (by simp)
        simp only [comb, ih c (fun q hq => hF q (by simp [hq])), e]
        simp
  rw [key E c h] at h0
  omega

def rightN (E : List Pr) (n : Nat) (l : Nat → Nat) : Nat := (List.range n).countP (fun x => l x == labF E x)

theorem countP_mono_lt (n : Nat) (f g : Nat → Bool) (h : ∀ x, x < n → f x = true → g x = true) (k : Nat) (hk : k < n) (h1 : f k = false) (h2 : g k = true) : (List.range n).countP f < (List.range n).countP g := by
  induction n with
  | zero => omega
  | succ n ih =>
    rw [List.range_succ, List.countP_append, List.countP_append, List.countP_singleton, List.countP_singleton]
    have hle : (List.range n).countP f ≤ (List.range n).countP g := List.countP_mono_left (fun x hx => h x (by have := List.mem_range.1 hx; omega))
    by_cases e : k = n
    · subst e
      simp only [h1, h2, if_true]
      simp only [Bool.false_eq_true, if_false]
      omega
    · have := ih (fun x hx => h x (by omega)) (by omega)
      have hn := h n (by omega)
      cases hf : f n
      · cases hg : g n <;> simp <;> omega
      · rw [hn hf]; simp; omega

/-- A round makes one more right, where not all are. -/
theorem round_more {E : List Pr} {n : Nat} (hE : ∀ p ∈ E, p.1 < n ∧ p.2 < n) {l : Nat → Nat} (h : Within E l) : (∀ x, x < n → l x = labF E x) ∨ rightN E n l < rightN E n (roundJ E l) := by
  by_cases hall : ∀ x, x < n → l x = labF E x
  · exact .inl hall
  · right
    have hx : ∃ x, x < n ∧ l x ≠ labF E x := by
      refine Classical.byContradiction fun hc => hall fun x hx => ?_
      refine Classical.byContradiction fun hne => hc ⟨x, hx, hne⟩
    obtain ⟨x, hxn, hx⟩ := hx
    -- a pair of which one end is right alone
    have hp : ∃ p ∈ E, ¬ (l p.1 = labF E p.1 ↔ l p.2 = labF E p.2) := by
      refine Classical.byContradiction fun hc => hx ?_
      have hs : ∀ p ∈ E, (if l p.1 = labF E p.1 then (1 : Int) else 0) = (if l p.2 = labF E p.2 then 1 else 0) := by
        intro p hp
        have : l p.1 = labF E p.1 ↔ l p.2 = labF E p.2 := Classical.byContradiction fun hne => hc ⟨p, hp, hne⟩
        by_cases h1 : l p.1 = labF E p.1
        · rw [if_pos h1, if_pos (this.1 h1)]
        · rw [if_neg h1, if_neg (fun h2 => h1 (this.2 h2))]
      have ha := alike (fun x => if l x = labF E x then (1 : Int) else 0) hs (labF E x) x (lab_idem E x)
      have hr : l (labF E x) = labF E (labF E x) := by
        have := (h (labF E x)).2
        have := h.lo (labF E x)
        rw [lab_idem E x] at this ⊢
        omega
      simp only [if_pos hr] at ha
      by_cases hx2 : l x = labF E x
      · exact hx2
      · rw [if_neg hx2] at ha
        omega
    obtain ⟨p, hp, hne⟩ := hp
    obtain ⟨n1, n2⟩ := hE p hp
    have hor : l p.1 = labF E p.1 ∨ l p.2 = labF E p.2 := by
      by_cases h1 : l p.1 = labF E p.1
      · exact .inl h1
      · by_cases h2 : l p.2 = labF E p.2
        · exact .inr h2
        · exact absurd ⟨fun h => absurd h h1, fun h => absurd h h2⟩ hne
    obtain ⟨e1, e2⟩ := round_edge E (fun _ h => h) h hp hor
    have hmono : ∀ y, y < n → (l y == labF E y) = true → (roundJ E l y == labF E y) = true := by
      intro y _ hy
      simp only [beq_iff_eq] at hy ⊢
      exact round_right E (fun _ h => h) h hy
    by_cases h1 : l p.1 = labF E p.1
    · have h2 : ¬ l p.2 = labF E p.2 := fun h2 => hne ⟨fun _ => h2, fun _ => h1⟩
      exact countP_mono_lt n _ _ hmono p.2 n2 (by simp [h2]) (by simp [e2])
    · exact countP_mono_lt n _ _ hmono p.1 n1 (by simp [h1]) (by simp [e1])

theorem rounds_count {E : List Pr} {n : Nat} (hn : 1 ≤ n) (hE : ∀ p ∈ E, p.1 < n ∧ p.2 < n) (k : Nat) : (∀ x, x < n → roundsJ E k x = labF E x) ∨ k + 1 ≤ rightN E n (roundsJ E k) := by
  induction k with
  | zero =>
    right
    have h0 : labF E 0 = 0 := Nat.le_zero.1 (lab_le E 0)
    unfold rightN
    have := List.countP_pos_iff (p := fun x => roundsJ E 0 x == labF E x) (l := List.range n)
    exact this.2 ⟨0, List.mem_range.2 (by omega), by simp [roundsJ, h0]⟩
  | succ k ih =>
    rcases ih with ih | ih
    · left
      intro x hx
      exact round_right E (fun _ h => h) (rounds_within E k) (ih x hx)
    · rcases round_more hE (rounds_within E k) with h | h
      · left
        intro x hx
        exact round_right E (fun _ h => h) (rounds_within E k) (h x hx)
      · right
        show k + 1 + 1 ≤ rightN E n (roundJ E (roundsJ E k))
        omega

theorem countP_full (n : Nat) (f : Nat → Bool) (h : n ≤ (List.range n).countP f) : ∀ x, x < n → f x = true := by
  have h2 : (List.range n).countP f = (List.range n).length := by
    have := List.countP_le_length (p := f) (l := List.range n)
    rw [List.length_range] at this ⊢
    omega
  intro x hx
  exact List.countP_eq_length.1 h2 x (List.mem_range.2 hx)

/-- As many rounds as there are nodes are enough. -/
theorem rounds_all {E : List Pr} {n : Nat} (hn : 1 ≤ n) (hE : ∀ p ∈ E, p.1 < n ∧ p.2 < n) : ∀ x, x < n → roundsJ E n x = labF E x := by
  rcases rounds_count hn hE n with h | h
  · exact h
  · intro x hx
    have := countP_full n (fun x => roundsJ E n x == labF E x) (by unfold rightN at h; omega) x hx
    simpa using this

/-- A rising list is what a run over all numbers finds in it. -/
theorem filter_rising (m : Nat) (T : List Nat) (hp : T.Pairwise (· < ·)) (hm : ∀ x ∈ T, x < m) : (List.range m).filter (fun x => T.contains x) = T := by
  induction m generalizing T with
  | zero =>
    match T with
    | [] => rfl
    | x :: r => exact absurd (hm x (by simp)) (by omega)
  | succ m ih =>
    rw [List.range_succ, List.filter_append]
    rcases List.eq_nil_or_concat T with rfl | ⟨S, x, rfl⟩
    · simp
    · rw [List.concat_eq_append] at hp hm ⊢
      have hps := List.pairwise_append.1 hp
      have hSx : ∀ y ∈ S, y < x := fun y hy => hps.2.2 y hy x (by simp)
      have hxm := hm x (by simp)
      by_cases e : x = m
      · subst e
        have h1 : (List.range x).filter (fun y => (S ++ [x]).contains y) = (List.range x).filter (fun y => S.contains y) := by
          apply List.filter_congr
          intro y hy
          have := List.mem_range.1 hy
          have hne : ¬ y = x := by omega
          simp [hne]
        rw [h1, ih S hps.1 hSx]
        simp
      · have hSm : ∀ y ∈ S ++ [x], y < m := by
          intro y hy
          rcases List.mem_append.1 hy with hy | hy
          · have := hSx y hy; omega
          · simp at hy; omega
        have h2 : m ∉ S ++ [x] := fun hmem => absurd (hSm m hmem) (by omega)
        rw [ih (S ++ [x]) hp hSm]
        have : (S ++ [x]).contains m = false := by
          cases hc : (S ++ [x]).contains m with
          | false => rfl
          | true => exact absurd (List.contains_iff_mem.1 hc) h2
        rw [List.filter_cons, this]
        simp

theorem tree_rising (E : List Pr) (k : Nat) : (treeUpto E k).Pairwise (· < ·) ∧ ∀ x ∈ treeUpto E k, x < k := by
  induction k with
  | zero => simp [treeUpto]
  | succ k ih =>
    unfold treeUpto
    split
    · exact ⟨ih.1, fun x hx => by have := ih.2 x hx; omega⟩
    · refine ⟨List.pairwise_append.2 ⟨ih.1, by simp, fun a ha b hb => ?_⟩, fun x hx => ?_⟩
      · simp at hb
        have := ih.2 a ha
        omega
      · rcases List.mem_append.1 hx with hx | hx
        · have := ih.2 x hx; omega
        · simp at hx; omega

/-- The pairs of those parts that are asked for. -/
def picked (E : List Pr) (s : Nat → Bool) (i : Nat) : List Pr := sel E ((List.range i).filter s)

theorem picked_succ (E : List Pr) (s : Nat → Bool) (i : Nat) : picked E s (i + 1) = if s i then picked E s i ++ [E.getD i (0, 0)] else picked E s i := by
  unfold picked
  rw [List.range_succ, List.filter_append]
  cases h : s i <;> simp [h, sel]

theorem picked_all (E : List Pr) : picked E (fun _ => true) E.length = E := by
  unfold picked sel
  rw [List.filter_eq_self.2 (fun _ _ => rfl)]
  apply List.ext_getElem
  · simp
  · intro i h1 h2
    simp [List.getD, h2]

theorem picked_tree (E : List Pr) (k m : Nat) (h : k ≤ m) : picked E (fun x => (treeUpto E k).contains x) m = sel E (treeUpto E k) := by
  unfold picked
  rw [filter_rising m _ (tree_rising E k).1 (fun x hx => by have := (tree_rising E k).2 x hx; omega)]

theorem picked_without (E : List Pr) (t m : Nat) (h : E.length ≤ m) : picked E (fun x => x != t && (treeOf E).contains x) m = without E (treeOf E) t := by
  unfold picked without
  have h1 := filter_rising m _ (tree_rising E E.length).1 (fun x hx => by have := (tree_rising E E.length).2 x hx; omega)
  have h2 : List.filter (fun x => (treeOf E).contains x) (List.range m) = treeOf E := h1
  rw [← List.filter_filter, h2]

theorem picked_lt {E : List Pr} {n : Nat} (hE : ∀ p ∈ E, p.1 < n ∧ p.2 < n) (s : Nat → Bool) {i : Nat} (hi : i ≤ E.length) : ∀ p ∈ picked E s i, p.1 < n ∧ p.2 < n := by
  intro p hp
  unfold picked sel at hp
  obtain ⟨k, hk, rfl⟩ := List.mem_map.1 hp
  have h1 := List.mem_range.1 (List.mem_filter.1 hk).1
  have h2 : k < E.length := by omega
  rw [List.getD_eq_getElem?_getD, List.getElem?_eq_getElem h2]
  exact hE _ (List.getElem_mem h2)

/-- Loops: whether the part itself is told first or last. -/
theorem loop_first (m part : Nat) (T : List Nat) (css : List (List Int)) (i : Nat) (hT : part ∉ T) (hi : i ≤ T.length) :
    (loopUpto m part T css i).set part 1 = Nat.rec (motive := fun _ => List Int) ((List.replicate m 0).set part 1) (fun k l => l.set (T.getD k 0) (-((css.getD k []).getD part 0))) i := by
  induction i with
  | zero => rfl
  | succ i ih =>
    have hne : ¬ T.getD i 0 = part := by
      have h2 : i < T.length := by omega
      rw [List.getD_eq_getElem?_getD, List.getElem?_eq_getElem h2]
      intro e
      exact hT (e ▸ List.getElem_mem h2)
    show ((loopUpto m part T css i).set (T.getD i 0) _).set part 1 = _
    rw [List.set_comm _ _ hne, ih (by omega)]
end Go.Proofs.YtfhamfgcjdhmdaaGreatDoor
