/- Trees, loops and cuts of lists of pairs: what NetTurns asks. Plain mathematics. -/
import Derived.Test.YtfhamfgcjdhmdaaDoorNLoops
namespace Go.Proofs.YtfhamfgcjdhmdaaDoor
set_option linter.unusedVariables false

theorem treeUpto_prefix (E : List Pr) (k : Nat) : ∀ l, k ≤ l → ∃ S, treeUpto E l = treeUpto E k ++ S ∧ ∀ x ∈ S, k ≤ x := by
  intro l
  induction l with
  | zero =>
    intro h
    have e : k = 0 := by omega
    rw [e]
    exact ⟨[], by simp, by simp⟩
  | succ l ih =>
    intro h
    by_cases e : k = l + 1
    · subst e; exact ⟨[], by simp, by simp⟩
    · obtain ⟨S, h1, h2⟩ := ih (by omega)
      by_cases hc : labF (sel E (treeUpto E l)) (E.getD l (0, 0)).1 = labF (sel E (treeUpto E l)) (E.getD l (0, 0)).2
      · exact ⟨S, by rw [treeUpto, if_pos hc]; exact h1, h2⟩
      · refine ⟨S ++ [l], by rw [treeUpto, if_neg hc, h1]; simp, fun x hx => ?_⟩
        rcases List.mem_append.1 hx with h3 | h3
        · exact h2 x h3
        · have : x = l := by simpa using h3
          omega

theorem treeUpto_nodup (E : List Pr) (k : Nat) : (treeUpto E k).Nodup := by
  induction k with
  | zero => simp [treeUpto]
  | succ k ih =>
    unfold treeUpto
    split
    · exact ih
    · rw [List.nodup_append]
      refine ⟨ih, by simp, ?_⟩
      intro a ha b hb e
      have h1 := treeUpto_lt E k a ha
      have : b = k := by simpa using hb
      omega

theorem sel_append (E : List Pr) (S T : List Nat) : sel E (S ++ T) = sel E S ++ sel E T := by simp [sel]

theorem tree_forest (E : List Pr) (k : Nat) : Forest (sel E (treeUpto E k)) := by
  induction k with
  | zero => exact Forest.nil
  | succ k ih =>
    unfold treeUpto
    split
    · exact ih
    · rename_i h
      rw [sel_append]
      exact Forest.snoc ih h

theorem tree_lab (E : List Pr) (k : Nat) (hk : k ≤ E.length) : labF (E.take k) = labF (sel E (treeUpto E k)) := by
  induction k with
  | zero => rfl
  | succ k ih =>
    have hlt : k < E.length := by omega
    have e : E.take (k + 1) = E.take k ++ [E.getD k (0, 0)] := by
      rw [List.take_succ_eq_append_getElem hlt]
      simp [List.getD, hlt]
    rw [e, labF_snoc, ih (by omega)]
    by_cases h : labF (sel E (treeUpto E k)) (E.getD k (0, 0)).1 = labF (sel E (treeUpto E k)) (E.getD k (0, 0)).2
    · rw [treeUpto, if_pos h, joinF_same _ _ h]
    · rw [treeUpto, if_neg h, sel_append]
      show _ = labF (sel E (treeUpto E k) ++ [E.getD k (0, 0)])
      rw [labF_snoc]

theorem isl_lab (E : List Pr) : labF E = labF (sel E (treeOf E)) := by
  have := tree_lab E E.length (Nat.le_refl _)
  rw [List.take_of_length_le (Nat.le_refl _)] at this
  exact this

/-- A part that isn't in the tree joins what is joined. -/
theorem nontree (E : List Pr) (i : Nat) (hi : i < E.length) (h : i ∉ treeOf E) : labF (sel E (treeOf E)) (E.getD i (0, 0)).1 = labF (sel E (treeOf E)) (E.getD i (0, 0)).2 := by
  obtain ⟨S, h1, _⟩ := treeUpto_prefix E (i + 1) E.length (by omega)
  have h2 : i ∉ treeUpto E (i + 1) := by
    intro e
    apply h
    unfold treeOf
    rw [h1]
    exact List.mem_append.2 (.inl e)
  by_cases hc : labF (sel E (treeUpto E i)) (E.getD i (0, 0)).1 = labF (sel E (treeUpto E i)) (E.getD i (0, 0)).2
  · obtain ⟨S2, h3, _⟩ := treeUpto_prefix E i E.length (by omega)
    unfold treeOf
    rw [h3, sel_append]
    exact lab_mono _ _ _ _ hc
  · exfalso
    apply h2
    rw [treeUpto, if_neg hc]
    simp

theorem countP_mem (m : Nat) : ∀ (T : List Nat), T.Nodup → (∀ x ∈ T, x < m) → (List.range m).countP (fun x => T.contains x) = T.length := by
  intro T
  induction T with
  | nil => intro _ _; simp
  | cons t r ih =>
    intro hn hm
    rw [List.nodup_cons] at hn
    have h1 := ih hn.2 (fun x hx => hm x (by simp [hx]))
    have h2 := countP_drop m (fun x => (t :: r).contains x) (fun x => r.contains x) t (hm t (by simp)) (by simp) (by simpa using hn.1) (by
      intro x hx
      simp [hx])
    rw [List.length_cons]
    omega

/-- As many loops as parts, less those of the tree. -/
theorem loops_count (m : Nat) (T : List Nat) (css : List (List Int)) (hn : T.Nodup) (hm : ∀ x ∈ T, x < m) : (loopsUpto m T css m).length + T.length = m := by
  unfold loopsUpto
  rw [List.length_map, ← List.countP_eq_length_filter]
  have h1 := countP_mem m T hn hm
  have h2 : ∀ l : List Nat, l.countP (fun x => !(T.contains x)) + l.countP (fun x => T.contains x) = l.length := by
    intro l
    induction l with
    | nil => rfl
    | cons a r ih =>
      rw [List.countP_cons, List.countP_cons, List.length_cons]
      have h3 : (if (!(T.contains a)) = true then 1 else 0) + (if T.contains a = true then 1 else 0) = 1 := by cases T.contains a <;> rfl
      omega
  have h3 := h2 (List.range m)
  rw [List.length_range] at h3
  omega

theorem comb_set (c : List Int) (E : List Pr) (t : Nat) (v : Int) (s : Nat → Int) (hc : c.length = E.length) (ht : t < E.length) : comb (c.set t v) E s = comb c E s + (v - c.getD t 0) * (s (E.getD t (0, 0)).1 - s (E.getD t (0, 0)).2) := by
  induction E generalizing c t with
  | nil => simp at ht
  | cons p q ih =>
    match c with
    | [] => simp at hc
    | x :: c =>
      cases t with
      | zero =>
        simp only [List.set_cons_zero, comb, List.getD_cons_zero]
        rw [Int.sub_mul]
        omega
      | succ t =>
        simp only [List.set_cons_succ, comb, List.getD_cons_succ]
        rw [ih c t (by simpa using hc) (by simpa using ht)]
        omega

/-- What the first i parts of the tree bring to a loop. -/
theorem loopUpto_get (m part : Nat) (T : List Nat) (css : List (List Int)) (i x : Nat) (hx : ∀ j, j < i → T.getD j 0 ≠ x) : (loopUpto m part T css i).getD x 0 = 0 := by
  induction i with
  | zero =>
    simp only [loopUpto, List.getD]
    by_cases h : x < m
    · simp [h]
    · simp [h]
  | succ i ih =>
    have h1 := hx i (by omega)
    show ((loopUpto m part T css i).set (T.getD i 0) (-((css.getD i []).getD part 0))).getD x 0 = 0
    rw [List.getD_eq_getElem?_getD, List.getElem?_set_ne h1, ← List.getD_eq_getElem?_getD]
    exact ih (fun j hj => hx j (by omega))

/-- What the cuts say of one part. -/
def col (css : List (List Int)) (e : Nat) : List Int := css.map fun c => c.getD e 0

theorem getD_inj {T : List Nat} (hn : T.Nodup) {i j : Nat} (hi : i < T.length) (hj : j < T.length) (h : T.getD i 0 = T.getD j 0) : i = j := by
  have e1 : T.getD i 0 = T[i] := by simp [List.getD, hi]
  have e2 : T.getD j 0 = T[j] := by simp [List.getD, hj]
  rw [e1, e2] at h
  have hp := List.pairwise_iff_getElem.1 hn
  rcases Nat.lt_trichotomy i j with h1 | h1 | h1
  · exact absurd h (hp i j hi hj h1)
  · exact h1
  · exact absurd h.symm (hp j i hj hi h1)

theorem loopUpto_comb (E : List Pr) (part : Nat) (T : List Nat) (css : List (List Int)) (s : Nat → Int) (hn : T.Nodup) (hT : ∀ x ∈ T, x < E.length) (hc : css.length = T.length) : ∀ i, i ≤ T.length → comb (loopUpto E.length part T css i) E s = - comb ((col css part).take i) ((sel E T).take i) s := by
  intro i
  induction i with
  | zero =>
    intro _
    simp only [loopUpto, List.take_zero]
    have := comb_zero E s
    rw [this]
    rfl
  | succ i ih =>
    intro hi
    have hlt : i < T.length := by omega
    have eT : T.getD i 0 = T[i] := by simp [List.getD, hlt]
    have hti : T.getD i 0 < E.length := by rw [eT]; exact hT _ (List.getElem_mem hlt)
    rw [loopUpto, comb_set _ _ _ _ _ (loopUpto_length _ _ _ _ _) hti, ih (by omega), loopUpto_get]
    · have e1 : (col css part).take (i + 1) = (col css part).take i ++ [(css.getD i []).getD part 0] := by
        rw [List.take_succ_eq_append_getElem (by simp [col]; omega)]
        have hci : i < css.length := by omega
        simp [col, List.getD, hci]
      have e2 : (sel E T).take (i + 1) = (sel E T).take i ++ [E.getD (T.getD i 0) (0, 0)] := by
        rw [List.take_succ_eq_append_getElem (by simp [sel]; omega)]
        simp [sel, hlt]
      rw [e1, e2, comb_append _ _ _ _ _ (by simp [col, sel]; omega)]
      simp only [comb]
      rw [Int.sub_zero, Int.neg_mul]
      omega
    · intro j hj e
      have := getD_inj hn (by omega) hlt e
      omega

/-- The cuts of a forest, by hand and by numbers. -/
theorem col_cuts (E : List Pr) (e : Nat) (he : e < E.length) : ∀ (R P : List Nat), (P ++ R).Nodup → (∀ x ∈ P ++ R, x < E.length) →
    R.map (fun t => (cutRow (without E (P ++ R) t) E (E.getD t (0, 0)).1).getD e 0) = cutsAt (sel E P) (sel E R) (E.getD e (0, 0)) := by
  intro R
  induction R with
  | nil => intro P _ _; rfl
  | cons t R ih =>
    intro P hn hl
    have h1 : without E (P ++ t :: R) t = sel E P ++ sel E R := by
      unfold without
      rw [List.nodup_append] at hn
      obtain ⟨n1, n2, n3⟩ := hn
      rw [List.nodup_cons] at n2
      rw [List.filter_append, List.filter_cons]
      have hP : P.filter (fun x => x != t) = P := by
        rw [List.filter_eq_self]
        intro x hx
        simp only [bne_iff_ne]
        exact fun e => n3 x hx t (by simp) e
      have hR : R.filter (fun x => x != t) = R := by
        rw [List.filter_eq_self]
        intro x hx
        simp only [bne_iff_ne]
        exact fun e => n2.1 (e ▸ hx)
      rw [hP, hR]
      simp [sel]
    have h2 := ih (P ++ [t]) (by simpa using hn) (by simpa using hl)
    simp only [List.append_assoc, List.singleton_append] at h2
    rw [List.map_cons, h1, h2]
    show _ = cutOf (sel E P) (sel E R) (E.getD t (0, 0)) (E.getD e (0, 0)) :: cutsAt (sel E P ++ [E.getD t (0, 0)]) (sel E R) (E.getD e (0, 0))
    rw [sel_append]
    congr 1
    · unfold cutRow cutOf
      simp [List.getD, he]

/-- Each loop comes back, whatever is asked of the nodes. -/
theorem loop_zero (E : List Pr) (e : Nat) (he : e < E.length) (hnt : e ∉ treeOf E) (s : Nat → Int) : comb (loopVec E.length e (treeOf E) (cutsL E (treeOf E))) E s = 0 := by
  have hn : (treeOf E).Nodup := treeUpto_nodup E E.length
  have hl : ∀ x ∈ treeOf E, x < E.length := treeUpto_lt E E.length
  have hcl : (cutsL E (treeOf E)).length = (treeOf E).length := by simp [cutsL]
  unfold loopVec
  rw [comb_set _ _ _ _ _ (loopUpto_length _ _ _ _ _) he, loopUpto_comb E e (treeOf E) (cutsL E (treeOf E)) s hn hl hcl _ (Nat.le_refl _), loopUpto_get]
  · have e1 : (col (cutsL E (treeOf E)) e).take (treeOf E).length = cutsAt [] (sel E (treeOf E)) (E.getD e (0, 0)) := by
      rw [List.take_of_length_le (by simp [col, cutsL])]
      have := col_cuts E e he (treeOf E) [] (by simpa using hn) (by simpa using hl)
      rw [← show sel E [] = [] from rfl, ← this]
      simp [col, cutsL]
    have e2 : (sel E (treeOf E)).take (treeOf E).length = sel E (treeOf E) := List.take_of_length_le (by simp [sel])
    rw [e1, e2, ← loop_back (sel E (treeOf E)) (tree_forest E E.length) (E.getD e (0, 0)) (nontree E e he hnt) s]
    omega
  · intro j hj h
    apply hnt
    have : (treeOf E).getD j 0 = (treeOf E)[j] := by simp [List.getD, hj]
    rw [← h, this]
    exact List.getElem_mem hj

/-- As many islands as nodes, less the tree's parts. -/
theorem roots_net (E : List Pr) (n : Nat) (hE : ∀ p ∈ E, p.1 < n ∧ p.2 < n) : roots n (labF E) + (treeOf E).length = n := by
  have hl : ∀ x ∈ treeOf E, x < E.length := treeUpto_lt E E.length
  rw [isl_lab E]
  have := roots_forest n _ (sel E (treeOf E)) rfl (tree_forest E E.length) (by
    intro p hp
    obtain ⟨i, hi, rfl⟩ := List.mem_map.1 hp
    have h1 := hl i hi
    have : E.getD i (0, 0) = E[i] := by simp [List.getD, h1]
    rw [this]
    exact hE _ (List.getElem_mem h1))
  have e : (sel E (treeOf E)).length = (treeOf E).length := by simp [sel]
  omega
end Go.Proofs.YtfhamfgcjdhmdaaDoor
