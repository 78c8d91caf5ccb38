/- Rows, tables, opposites. -/
import Derived.Test.YtidnhafllbckcaaGMath
namespace Go.Proofs.Ytidnhafllbckcaa
open Go.RowKit
set_option linter.unusedVariables false
set_option linter.unusedSimpArgs false

/-- What isn't known is 0. -/
def fillZ (y : List Int) : List Int := y.map fun v => if v = 2 then 0 else v

theorem fill_knows (y : List Int) : Knows y (fillZ y) := fun j => by
  by_cases hj : j < y.length
  · have e1 : y.getD j 0 = y[j] := by simp [List.getD_eq_getElem?_getD, hj]
    have e2 : (fillZ y).getD j 0 = if y[j] = 2 then 0 else y[j] := by simp [fillZ, List.getD_eq_getElem?_getD, hj]
    rw [e1, e2]
    by_cases h : y[j] = 2
    · exact .inl h
    · rw [if_neg h]; exact .inr rfl
  · right
    simp [fillZ, List.getD_eq_getElem?_getD, List.getElem?_eq_none (Nat.le_of_not_lt hj)]

theorem fill_known {y : List Int} (h : Small y) : Known (fillZ y) := fun v hv => by
  obtain ⟨u, hu, rfl⟩ := List.mem_map.1 hv
  rcases h u hu with e | e | e <;> simp [e]

theorem bitsL_cons (b r k : Nat) (hb : b < 2) : bitsL (b + 2 * r) (k + 1) = (b : Int) :: bitsL r k := by
  apply List.ext_getElem
  · simp [bitsL]
  · intro j h1 h2
    rw [bitsL_get]
    cases j with
    | zero => simp; omega
    | succ j =>
      rw [List.getElem_cons_succ, bitsL_get]
      have : (b + 2 * r) / 2 ^ (j + 1) = r / 2 ^ j := by
        have e : 2 ^ (j + 1) = 2 * 2 ^ j := by rw [Nat.pow_succ, Nat.mul_comm]
        rw [e, ← Nat.div_div_eq_div_mul]
        congr 1
        omega
      rw [this]

theorem row_of : ∀ z : List Int, Known z → ∃ r, r < 2 ^ z.length ∧ bitsL r z.length = z
  | [], _ => ⟨0, by simp, by simp [bitsL]⟩
  | v :: z, h => by
    obtain ⟨r, h1, h2⟩ := row_of z fun u hu => h u (by simp [hu])
    rcases h v (by simp) with rfl | rfl
    · refine ⟨0 + 2 * r, by rw [List.length_cons, Nat.pow_succ]; omega, ?_⟩
      rw [List.length_cons, bitsL_cons 0 r _ (by omega), h2]
      rfl
    · refine ⟨1 + 2 * r, by rw [List.length_cons, Nat.pow_succ]; omega, ?_⟩
      rw [List.length_cons, bitsL_cons 1 r _ (by omega), h2]
      rfl

theorem tab_bit (f : Nat → Bool) : ∀ (m i : Nat), i < m → tabN f m / 2 ^ i % 2 = if f i then 1 else 0
  | 0, i, h => absurd h (Nat.not_lt_zero _)
  | m + 1, i, h => by
    rw [tabN]
    by_cases e : i = m
    · subst e
      have h1 := tabN_lt f i
      have hp : 0 < 2 ^ i := Nat.two_pow_pos _
      split
      · have : (tabN f i + 2 ^ i) / 2 ^ i = 1 := by
          rw [Nat.add_div_right _ hp, Nat.div_eq_of_lt h1]
        rw [this]
      · rw [Nat.add_zero, Nat.div_eq_of_lt h1]
    · have hi : i < m := by omega
      have ih := tab_bit f m i hi
      by_cases hf : f m = true
      · rw [if_pos hf]
        have e2 : 2 ^ m = 2 ^ i * (2 * 2 ^ (m - i - 1)) := by
          rw [← Nat.mul_assoc, ← Nat.pow_succ, ← Nat.pow_add]
          congr 1
          omega
        rw [e2, Nat.add_mul_div_left _ _ (Nat.two_pow_pos _), Nat.add_mul_mod_self_left]
        exact ih
      · rw [if_neg hf, Nat.add_zero]
        exact ih

theorem tab_not (f g : Nat → Bool) : ∀ m, (∀ r, r < m → g r = !f r) → tabN f m + tabN g m + 1 = 2 ^ m
  | 0, _ => rfl
  | m + 1, h => by
    have ih := tab_not f g m fun r hr => h r (by omega)
    rw [tabN, tabN, h m (by omega), Nat.pow_succ]
    cases f m <;> simp <;> omega

theorem tab_congr (f g : Nat → Bool) : ∀ m, (∀ r, r < m → f r = g r) → tabN f m = tabN g m
  | 0, _ => rfl
  | m + 1, h => by rw [tabN, tabN, tab_congr f g m fun r hr => h r (by omega), h m (by omega)]

theorem bits_known (r k : Nat) : Known (bitsL r k) := by
  intro v hv
  obtain ⟨j, _, rfl⟩ := List.mem_map.1 hv
  have : r / 2 ^ j % 2 = 0 ∨ r / 2 ^ j % 2 = 1 := by omega
  rcases this with h | h <;> simp [h]

/-- A row that is as the inputs are, where they are known. -/
def fitB (x : List Int) (r : Nat) : Bool := (List.range x.length).all fun j => x.getD j 0 == 2 || x.getD j 0 == ((r / 2 ^ j % 2 : Nat) : Int)

theorem fit_iff (x : List Int) (r : Nat) : fitB x r = true ↔ Knows x (bitsL r x.length) := by
  unfold fitB
  rw [List.all_eq_true]
  constructor
  · intro h j
    by_cases hj : j < x.length
    · have := h j (List.mem_range.2 hj)
      rw [bitsL_getD _ _ _ hj]
      simpa using this
    · right
      have h2 : ¬ j < (bitsL r x.length).length := by rw [bitsL_length]; exact hj
      simp [List.getD_eq_getElem?_getD, List.getElem?_eq_none (Nat.le_of_not_lt hj), List.getElem?_eq_none (Nat.le_of_not_lt h2)]
  · intro h j hj
    have := h j
    rw [bitsL_getD _ _ _ (List.mem_range.1 hj)] at this
    simpa using this

/-- What is known is so whatever the others are. -/
theorem kleene_known (n : Nat) (t : Ex n) (x : List Int) (r : Nat) (hr : fitB x r = true) (v : Int) (hv : leadsE x n t = v) (h2 : v ≠ 2) : rowF n t x.length r = (v == 1) := by
  unfold rowF
  rcases leads_mono ((fit_iff x r).1 hr) n t with e | e
  · exact absurd (hv.symm.trans e) h2
  · rw [← e, hv]

/-- Where each input stands once it is known where it can be. -/
theorem kleene_once (n : Nat) (t : Ex n) (x : List Int) (hf : FineE x.length n t) (hn : (insE n t).Nodup) (hs : Small x) (hv : leadsE x n t = 2) (b : Bool) : ∃ r, r < 2 ^ x.length ∧ fitB x r = true ∧ rowF n t x.length r = b := by
  obtain ⟨y, m, e⟩ := can_at x.length n t hf hn x rfl hs hv (if b then 1 else 0) (by cases b <;> simp)
  have hk := fill_known m.small
  obtain ⟨r, h1, h2⟩ := row_of (fillZ y) hk
  have hl : (fillZ y).length = x.length := by simp [fillZ, m.len]
  rw [hl] at h1 h2
  refine ⟨r, h1, (fit_iff x r).2 ?_, ?_⟩
  · rw [h2]; exact m.knows.trans (fill_knows y)
  · unfold rowF
    rw [h2]
    rcases leads_mono (fill_knows y) n t with e2 | e2
    · rw [e] at e2; cases b <;> simp at e2
    · rw [← e2, e]; cases b <;> rfl

theorem dec_dual {α : Type} (c o c' o' : Int) (hc : c = 0 ∨ c = 1) (ho : o = 0 ∨ o = 1) (hcc : c' = 1 - c) (hoo : o' = 1 - o) (f g : α → Int) (l : List α) (hf : ∀ u ∈ l, f u = 0 ∨ f u = 1) (hg : ∀ u ∈ l, g u = 1 - f u) : decF c' (l.map g) o' = 1 - decF c (l.map f) o := by
  rw [decF_eq c (by omega), decF_eq c' (by omega)]
  have n1 : ¬ (2 : Int) ∈ l.map f := fun e => by
    obtain ⟨u, hu, e⟩ := List.mem_map.1 e
    have := hf u hu
    omega
  have n2 : ¬ (2 : Int) ∈ l.map g := fun e => by
    obtain ⟨u, hu, e⟩ := List.mem_map.1 e
    have := hf u hu
    have := hg u hu
    omega
  rw [if_neg n1, if_neg n2]
  by_cases h : c ∈ l.map f
  · obtain ⟨u, hu, e⟩ := List.mem_map.1 h
    rw [if_pos h, if_pos (List.mem_map.2 ⟨u, hu, by rw [hg u hu, e, hcc]⟩), hcc]
  · rw [if_neg h, if_neg (fun e => by
      obtain ⟨u, hu, e⟩ := List.mem_map.1 e
      exact h (List.mem_map.2 ⟨u, hu, by have := hg u hu; omega⟩)), hoo]

theorem leads_dual {y : List Int} (hy : Known y) (k : Int) : ∀ (n : Nat) (t : Ex n), FineE k n t → leadsE y n (dualE n t) = 1 - leadsE y n t
  | 0, t, _ => t.elim
  | n + 1, t, hf => by
    rcases wrong_zero hf.1 with ⟨h1, _⟩ | ⟨h1, _⟩
    · have e1 := @leadsE_sw y n (1, t.2.1, !t.2.2.1, []) (by show (1 : Int) ≠ 2; decide) (by show (1 : Int) ≠ 3; decide)
      have e2 := @leadsE_sw y n t (by omega) (by omega)
      rw [dualE_one n t h1, e2]
      refine e1.trans ?_
      show swV y t.2.1 (!t.2.2.1) = 1 - swV y t.2.1 t.2.2.1
      unfold swV
      rcases known_get hy t.2.1.toNat with e | e <;> rw [e] <;> cases t.2.2.1 <;> simp
    · rw [dualE_two n t (by omega)]
      have hd : ∀ u ∈ t.2.2.2, leadsE y n (dualE n u) = 1 - leadsE y n u := fun u hu => leads_dual hy k n u (hf.2 u hu)
      rcases h1 with h1 | h1
      · rw [if_pos h1, leadsE_two h1]
        refine (@leadsE_three y n (3, 0, false, t.2.2.2.map (dualE n)) rfl).trans ?_
        show decF 1 ((t.2.2.2.map (dualE n)).map (leadsE y n)) 0 = _
        rw [List.map_map]
        exact dec_dual 0 1 1 0 (.inl rfl) (.inr rfl) rfl rfl (leadsE y n) _ _ (fun u _ => leads_known hy n u) hd
      · have hn2 : ¬ t.1 = 2 := by omega
        rw [if_neg hn2, leadsE_three h1]
        refine (@leadsE_two y n (2, 0, false, t.2.2.2.map (dualE n)) rfl).trans ?_
        show decF 0 ((t.2.2.2.map (dualE n)).map (leadsE y n)) 1 = _
        rw [List.map_map]
        exact dec_dual 1 0 0 1 (.inr rfl) (.inl rfl) rfl rfl (leadsE y n) _ _ (fun u _ => leads_known hy n u) hd

theorem cntL_map {α : Type} (f : α → Nat → Nat × Int) (g : α → α) : ∀ (l : List α) (a : Nat), (∀ u ∈ l, ∀ m, f (g u) m = f u m) → cntL f (l.map g) a = cntL f l a
  | [], a, _ => rfl
  | t :: r, a, h => by
    rw [List.map_cons, cntL, cntL, h t (by simp), cntL_map f g r _ fun u hu => h u (by simp [hu])]

theorem count_dual (k : Int) : ∀ (n : Nat) (t : Ex n), FineE k n t → ∀ a, countE k n (dualE n t) a = countE k n t a
  | 0, t, _ => t.elim
  | n + 1, t, hf => by
    intro a
    have e0 : countE k (n + 1) t a = if a = 40 then (0, 2) else cntL (countE k n) t.2.2.2 (a + 1) := if_pos hf.1
    rw [e0]
    rcases wrong_zero hf.1 with ⟨h1, h2, h3, h4⟩ | ⟨h1, h2, _⟩
    · rw [dualE_one n t h1]
      have hw : wrongW k 1 t.2.1 (!t.2.2.1) 0 = 0 := by
        unfold wrongW
        rw [if_pos rfl, if_neg (by omega), if_neg (by omega)]
      have e1 : countE k (n + 1) (1, t.2.1, !t.2.2.1, []) a = if a = 40 then (0, 2) else cntL (countE k n) [] (a + 1) := if_pos hw
      rw [e1, List.length_eq_zero_iff.1 h2]
    · rw [dualE_two n t (by omega)]
      have hm : (t.2.2.2.map (dualE n)).length = t.2.2.2.length := by simp
      have hw : wrongW k (if t.1 = 2 then 3 else 2) 0 false (t.2.2.2.map (dualE n)).length = 0 := by
        have hpos : 0 < (t.2.2.2.map (dualE n)).length := by rw [hm]; exact h2
        generalize (t.2.2.2.map (dualE n)).length = L at hpos
        unfold wrongW
        rw [if_neg (by split <;> decide), if_pos (by split <;> simp), if_neg (by simp; omega)]
      have e1 : countE k (n + 1) ((if t.1 = 2 then 3 else 2), 0, false, t.2.2.2.map (dualE n)) a = if a = 40 then (0, 2) else cntL (countE k n) (t.2.2.2.map (dualE n)) (a + 1) := if_pos hw
      rw [e1, cntL_map _ _ _ _ fun u hu m => count_dual k n u (hf.2 u hu) m]

theorem check_dual {n : Nat} {t : Ex n} {k : Int} (h : checkE n t k = 0) : checkE n (dualE n t) k = 0 := by
  have hf := (check_zero h).2.2
  unfold checkE at h ⊢
  split at h
  · simp at h
  · rename_i h1
    rw [if_neg h1, count_dual k n t hf]
    exact h

/-- Dual's table is the opposite. -/
theorem table_dual {n : Nat} {t : Ex n} {k : Nat} (h : checkE n t k = 0) (r : Nat) : rowF n (dualE n t) k r = !rowF n t k r := by
  have hf := (check_zero h).2.2
  unfold rowF
  rw [leads_dual (bits_known r k) k n t hf]
  rcases leads_known (bits_known r k) n t with e | e <;> rw [e] <;> rfl
end Go.Proofs.Ytidnhafllbckcaa
