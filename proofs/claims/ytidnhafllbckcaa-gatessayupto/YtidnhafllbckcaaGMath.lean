/- What three values know: Kleene, De Morgan. -/
import Derived.Test.YtidnhafllbckcaaGDual
namespace Go.Proofs.Ytidnhafllbckcaa
open Go.RowKit
set_option linter.unusedVariables false
set_option linter.unusedSimpArgs false

theorem decF_eq (c : Int) (hc : c ≠ 2) : ∀ (vs : List Int) (o : Int), decF c vs o = if c ∈ vs then c else if 2 ∈ vs then 2 else o
  | [], o => by simp [decF]
  | v :: r, o => by
    rw [decF, decF_eq c hc r]
    by_cases h : v = c
    · subst h; simp
    · rw [if_neg h]
      by_cases h2 : v = 2
      · subst h2
        have : c ∈ (2 :: r) ↔ c ∈ r := by simp [hc]
        by_cases h3 : c ∈ r
        · rw [if_pos h3, if_pos (this.2 h3)]
        · rw [if_neg h3, if_neg (fun e => h3 (this.1 e)), if_pos (show (2 : Int) ∈ (2 : Int) :: r by simp)]
          split <;> simp
      · have e1 : c ∈ (v :: r) ↔ c ∈ r := by
          simp only [List.mem_cons]
          exact ⟨fun e => e.resolve_left (fun e => h e.symm), .inr⟩
        have e2 : (2 : Int) ∈ (v :: r) ↔ (2 : Int) ∈ r := by
          simp only [List.mem_cons]
          exact ⟨fun e => e.resolve_left (fun e => h2 e.symm), .inr⟩
        rw [if_neg h2]
        by_cases h3 : c ∈ r
        · rw [if_pos h3, if_pos (e1.2 h3)]
        · rw [if_neg h3, if_neg (fun e => h3 (e1.1 e))]
          by_cases h4 : (2 : Int) ∈ r
          · rw [if_pos h4, if_pos (e2.2 h4)]
          · rw [if_neg h4, if_neg (fun e => h4 (e2.1 e))]

theorem leadsE_two {x : List Int} {n : Nat} {t : Ex (n + 1)} (h : t.1 = 2) : leadsE x (n + 1) t = decF 0 (t.2.2.2.map (leadsE x n)) 1 := if_pos h
theorem leadsE_three {x : List Int} {n : Nat} {t : Ex (n + 1)} (h : t.1 = 3) : leadsE x (n + 1) t = decF 1 (t.2.2.2.map (leadsE x n)) 0 :=
  (if_neg (by omega)).trans (if_pos h)
theorem leadsE_sw {x : List Int} {n : Nat} {t : Ex (n + 1)} (h2 : t.1 ≠ 2) (h3 : t.1 ≠ 3) : leadsE x (n + 1) t = swV x t.2.1 t.2.2.1 := (if_neg h2).trans (if_neg h3)

/-- y knows what x knows. -/
def Knows (x y : List Int) : Prop := ∀ j : Nat, x.getD j 0 = 2 ∨ x.getD j 0 = y.getD j 0

theorem Knows.refl (x : List Int) : Knows x x := fun _ => .inr rfl
theorem Knows.trans {x y z : List Int} (h : Knows x y) (k : Knows y z) : Knows x z := fun j => by
  rcases h j with e | e
  · exact .inl e
  · rcases k j with e2 | e2
    · exact .inl (e.trans e2)
    · exact .inr (e.trans e2)

theorem dec_mono {α : Type} (c o : Int) (hc : c ≠ 2) (f g : α → Int) (l : List α) (h : ∀ u ∈ l, f u = 2 ∨ f u = g u) : decF c (l.map f) o = 2 ∨ decF c (l.map f) o = decF c (l.map g) o := by
  rw [decF_eq c hc, decF_eq c hc]
  by_cases h1 : c ∈ l.map f
  · rw [if_pos h1]
    obtain ⟨u, hu, e⟩ := List.mem_map.1 h1
    have h2 : c ∈ l.map g := by
      rcases h u hu with e2 | e2
      · exact absurd (e.symm.trans e2) hc
      · exact List.mem_map.2 ⟨u, hu, by rw [← e2, e]⟩
    rw [if_pos h2]
    exact .inr rfl
  · by_cases h2 : (2 : Int) ∈ l.map f
    · rw [if_neg h1, if_pos h2]
      exact .inl rfl
    · have e : l.map f = l.map g := List.map_congr_left fun u hu => by
        rcases h u hu with e | e
        · exact absurd (List.mem_map.2 ⟨u, hu, e⟩) h2
        · exact e
      rw [← e]
      exact .inr rfl

theorem leads_mono {x y : List Int} (h : Knows x y) : ∀ (n : Nat) (t : Ex n), leadsE x n t = 2 ∨ leadsE x n t = leadsE y n t
  | 0, t => t.elim
  | n + 1, t => by
    by_cases h2 : t.1 = 2
    · rw [leadsE_two h2, leadsE_two h2]
      exact dec_mono 0 1 (by decide) _ _ _ fun u _ => leads_mono h n u
    · by_cases h3 : t.1 = 3
      · rw [leadsE_three h3, leadsE_three h3]
        exact dec_mono 1 0 (by decide) _ _ _ fun u _ => leads_mono h n u
      · rw [leadsE_sw h2 h3, leadsE_sw h2 h3]
        unfold swV
        rcases h t.2.1.toNat with e | e
        · rw [e]; simp
        · rw [e]; exact .inr rfl

/-- Known inputs. -/
def Known (y : List Int) : Prop := ∀ v ∈ y, v = 0 ∨ v = 1

theorem known_get {y : List Int} (h : Known y) (j : Nat) : y.getD j 0 = 0 ∨ y.getD j 0 = 1 := by
  by_cases hj : j < y.length
  · rw [show y.getD j 0 = y[j] by simp [List.getD_eq_getElem?_getD, hj]]; exact h _ (List.getElem_mem hj)
  · left; simp [List.getD_eq_getElem?_getD, List.getElem?_eq_none (Nat.le_of_not_lt hj)]
theorem Known.small {y : List Int} (h : Known y) : Small y := fun v hv => (h v hv).imp id .inl

theorem dec_known {α : Type} (c o : Int) (hc : c = 0 ∨ c = 1) (ho : o = 0 ∨ o = 1) (f : α → Int) (l : List α) (h : ∀ u ∈ l, f u = 0 ∨ f u = 1) : decF c (l.map f) o = 0 ∨ decF c (l.map f) o = 1 := by
  rw [decF_eq c (by omega)]
  have h2 : ¬ (2 : Int) ∈ l.map f := fun e => by
    obtain ⟨u, hu, e⟩ := List.mem_map.1 e
    have := h u hu
    omega
  rw [if_neg h2]
  split
  · exact hc
  · exact ho

theorem leads_known {y : List Int} (h : Known y) : ∀ (n : Nat) (t : Ex n), leadsE y n t = 0 ∨ leadsE y n t = 1
  | 0, t => t.elim
  | n + 1, t => by
    by_cases h2 : t.1 = 2
    · rw [leadsE_two h2]
      exact dec_known 0 1 (.inl rfl) (.inr rfl) _ _ fun u _ => leads_known h n u
    · by_cases h3 : t.1 = 3
      · rw [leadsE_three h3]
        exact dec_known 1 0 (.inr rfl) (.inl rfl) _ _ fun u _ => leads_known h n u
      · rw [leadsE_sw h2 h3]
        unfold swV
        rcases known_get h t.2.1.toNat with e | e <;> rw [e] <;> split <;> simp

theorem dec_small {α : Type} (c o : Int) (hc : c = 0 ∨ c = 1) (ho : o = 0 ∨ o = 1) (f : α → Int) (l : List α) : decF c (l.map f) o = 0 ∨ decF c (l.map f) o = 1 ∨ decF c (l.map f) o = 2 := by
  rw [decF_eq c (by omega)]
  split
  · omega
  · split <;> omega

theorem small_getD {y : List Int} (h : Small y) (j : Nat) : y.getD j 0 = 0 ∨ y.getD j 0 = 1 ∨ y.getD j 0 = 2 := by
  by_cases hj : j < y.length
  · rw [show y.getD j 0 = y[j] by simp [List.getD_eq_getElem?_getD, hj]]; exact h _ (List.getElem_mem hj)
  · left; simp [List.getD_eq_getElem?_getD, List.getElem?_eq_none (Nat.le_of_not_lt hj)]

theorem leads_small {y : List Int} (h : Small y) : ∀ (n : Nat) (t : Ex n), leadsE y n t = 0 ∨ leadsE y n t = 1 ∨ leadsE y n t = 2
  | 0, t => t.elim
  | n + 1, t => by
    by_cases h2 : t.1 = 2
    · rw [leadsE_two h2]
      exact dec_small 0 1 (.inl rfl) (.inr rfl) _ _
    · by_cases h3 : t.1 = 3
      · rw [leadsE_three h3]
        exact dec_small 1 0 (.inr rfl) (.inl rfl) _ _
      · rw [leadsE_sw h2 h3]
        unfold swV
        rcases small_getD h t.2.1.toNat with e | e | e <;> rw [e] <;> split <;> simp_all

/-- The inputs of an expression, as often as they stand there. -/
def insE : (n : Nat) → Ex n → List Int
  | 0, _ => []
  | n + 1, t => if t.1 = 1 then [t.2.1] else t.2.2.2.flatMap (insE n)

theorem leads_congr {x y : List Int} (k : Int) : ∀ (n : Nat) (t : Ex n), FineE k n t → (∀ i ∈ insE n t, x.getD i.toNat 0 = y.getD i.toNat 0) → leadsE x n t = leadsE y n t
  | 0, t, _, _ => t.elim
  | n + 1, t, hf, h => by
    rcases wrong_zero hf.1 with ⟨h1, _⟩ | ⟨h1, _⟩
    · rw [leadsE_sw (by omega) (by omega), leadsE_sw (by omega) (by omega)]
      have := h t.2.1 (by rw [insE, if_pos h1]; simp)
      unfold swV
      rw [this]
    · have hm : t.2.2.2.map (leadsE x n) = t.2.2.2.map (leadsE y n) := List.map_congr_left fun u hu =>
        leads_congr k n u (hf.2 u hu) fun i hi => h i (by rw [insE, if_neg (by omega)]; exact List.mem_flatMap.2 ⟨u, hu, hi⟩)
      rcases h1 with h1 | h1
      · rw [leadsE_two h1, leadsE_two h1, hm]
      · rw [leadsE_three h1, leadsE_three h1, hm]

/-- y is x but for some inputs, which are told. -/
structure More (k : Nat) (S : List Int) (x y : List Int) : Prop where
  len : y.length = k
  small : Small y
  knows : Knows x y
  out : ∀ j : Nat, (j : Int) ∉ S → y.getD j 0 = x.getD j 0

/-- Of one expression in which each input stands once. -/
def Can (k n : Nat) (t : Ex n) : Prop := ∀ x : List Int, x.length = k → Small x → leadsE x n t = 2 → ∀ c : Int, c = 0 ∨ c = 1 → ∃ y, More k (insE n t) x y ∧ leadsE y n t = c

theorem ins_pos (k n : Nat) (t : Ex n) (hf : FineE k n t) : ∀ i ∈ insE n t, 0 ≤ i := by
  induction n with
  | zero => exact t.elim
  | succ n ih =>
    intro i hi
    rcases wrong_zero hf.1 with ⟨h1, _, h2, _⟩ | ⟨h1, _⟩
    · rw [insE, if_pos h1] at hi
      simp at hi
      omega
    · rw [insE, if_neg (by omega)] at hi
      obtain ⟨u, hu, hi⟩ := List.mem_flatMap.1 hi
      exact ih u (hf.2 u hu) i hi

theorem can_all (k n : Nat) (d : Int) (hd : d = 0 ∨ d = 1) : ∀ (l : List (Ex n)) (x : List Int), (∀ u ∈ l, FineE k n u ∧ Can k n u) → (l.flatMap (insE n)).Nodup → x.length = k → Small x → (∀ u ∈ l, leadsE x n u = 2 ∨ leadsE x n u = d) →
    ∃ y, More k (l.flatMap (insE n)) x y ∧ ∀ u ∈ l, leadsE y n u = d
  | [], x, _, _, hl, hs, _ => ⟨x, ⟨hl, hs, Knows.refl x, fun _ _ => rfl⟩, fun u hu => by cases hu⟩
  | u :: r, x, hc, hn, hl, hs, hv => by
    rw [List.flatMap_cons] at hn ⊢
    obtain ⟨hn1, hn2, hn3⟩ := List.nodup_append.1 hn
    obtain ⟨y1, m1, e1⟩ : ∃ y, More k (insE n u) x y ∧ leadsE y n u = d := by
      rcases hv u (by simp) with e | e
      · exact (hc u (by simp)).2 x hl hs e d hd
      · exact ⟨x, ⟨hl, hs, Knows.refl x, fun _ _ => rfl⟩, e⟩
    have hsame : ∀ v ∈ r, leadsE y1 n v = leadsE x n v := fun v hv => leads_congr k n v (hc v (by simp [hv])).1 fun i hi => by
      by_cases h0 : 0 ≤ i
      · obtain ⟨j, rfl⟩ : ∃ j : Nat, i = j := ⟨i.toNat, by omega⟩
        rw [Int.toNat_natCast]
        refine m1.out j fun h => ?_
        exact hn3 _ h _ (List.mem_flatMap.2 ⟨v, hv, hi⟩) rfl
      · exfalso
        exact h0 (ins_pos k n v (hc v (by simp [hv])).1 i hi)
    obtain ⟨y2, m2, e2⟩ := can_all k n d hd r y1 (fun v hv => hc v (by simp [hv])) hn2 m1.len m1.small (fun v hv2 => by rw [hsame v hv2]; exact hv v (by simp [hv2]))
    refine ⟨y2, ⟨m2.len, m2.small, m1.knows.trans m2.knows, fun j hj => ?_⟩, fun v hv => ?_⟩
    · rw [m2.out j fun h => hj (List.mem_append_right _ h), m1.out j fun h => hj (List.mem_append_left _ h)]
    · rcases List.mem_cons.1 hv with rfl | hv
      · rcases leads_mono m2.knows n v with e | e
        · rw [e1] at e; omega
        · rw [← e, e1]
      · exact e2 v hv

theorem dec_two {c o : Int} {vs : List Int} (hc : c = 0 ∨ c = 1) (ho : o = 0 ∨ o = 1) (h : decF c vs o = 2) : c ∉ vs ∧ (2 : Int) ∈ vs := by
  rw [decF_eq c (by omega)] at h
  split at h
  · omega
  · rename_i h1
    split at h
    · rename_i h2
      exact ⟨h1, h2⟩
    · omega

theorem can_dec (k n : Nat) (c0 : Int) (hc0 : c0 = 0 ∨ c0 = 1) (l : List (Ex n)) (hc : ∀ u ∈ l, FineE k n u ∧ Can k n u) (hn : (l.flatMap (insE n)).Nodup) (x : List Int) (hl : x.length = k) (hs : Small x) (hv : decF c0 (l.map (leadsE x n)) (1 - c0) = 2) (c : Int) (h : c = 0 ∨ c = 1) :
    ∃ y, More k (l.flatMap (insE n)) x y ∧ decF c0 (l.map (leadsE y n)) (1 - c0) = c := by
  obtain ⟨h1, h2⟩ := dec_two hc0 (by omega) hv
  by_cases e : c = c0
  · subst e
    obtain ⟨u, hu, e⟩ := List.mem_map.1 h2
    obtain ⟨y, m, ey⟩ := (hc u hu).2 x hl hs e c h
    refine ⟨y, ⟨m.len, m.small, m.knows, fun j hj => m.out j fun hi => hj (List.mem_flatMap.2 ⟨u, hu, hi⟩)⟩, ?_⟩
    rw [decF_eq c (by omega), if_pos (List.mem_map.2 ⟨u, hu, ey⟩)]
  · obtain rfl : c = 1 - c0 := by omega
    obtain ⟨y, m, ey⟩ := can_all k n (1 - c0) h l x hc hn hl hs (fun u hu => by
      rcases leads_small hs n u with e1 | e1 | e1
      · by_cases e2 : c0 = 0
        · exact absurd (List.mem_map.2 ⟨u, hu, by omega⟩) h1
        · exact .inr (by omega)
      · by_cases e2 : c0 = 1
        · exact absurd (List.mem_map.2 ⟨u, hu, by omega⟩) h1
        · exact .inr (by omega)
      · exact .inl e1)
    refine ⟨y, m, ?_⟩
    rw [decF_eq c0 (by omega), if_neg (fun hm => by
      obtain ⟨u, hu, e1⟩ := List.mem_map.1 hm
      have := ey u hu
      omega), if_neg (fun hm => by
      obtain ⟨u, hu, e1⟩ := List.mem_map.1 hm
      have := ey u hu
      omega)]

theorem can_at (k : Nat) : ∀ (n : Nat) (t : Ex n), FineE k n t → (insE n t).Nodup → Can k n t
  | 0, t, _, _ => t.elim
  | n + 1, t, hf, hn => by
    intro x hl hs hv c hc
    rcases wrong_zero hf.1 with ⟨h1, _, h2, h3⟩ | ⟨h1, _⟩
    · rw [leadsE_sw (by omega) (by omega)] at hv
      obtain ⟨j, hj⟩ : ∃ j : Nat, t.2.1 = j := ⟨t.2.1.toNat, by omega⟩
      have hjk : j < x.length := by omega
      have hx2 : x.getD j 0 = 2 := by
        rcases small_getD hs j with e | e | e
        · unfold swV at hv
          rw [hj, Int.toNat_natCast, e] at hv
          split at hv <;> omega
        · unfold swV at hv
          rw [hj, Int.toNat_natCast, e] at hv
          split at hv <;> omega
        · exact e
      have hget : ∀ v, (x.set j v).getD j 0 = v := fun v => by simp [List.getD_eq_getElem?_getD, hjk]
      have hoth : ∀ v (i : Nat), i ≠ j → (x.set j v).getD i 0 = x.getD i 0 := fun v i hi => by simp [List.getD_eq_getElem?_getD, List.getElem?_set_ne (Ne.symm hi)]
      refine ⟨x.set j (if t.2.2.1 = true then 1 - c else c), ⟨by simp [hl], ?_, ?_, ?_⟩, ?_⟩
      · intro v hv
        rcases List.mem_or_eq_of_mem_set hv with h | h
        · exact hs v h
        · rw [h]; split <;> omega
      · intro i
        by_cases e : i = j
        · subst e; exact .inl hx2
        · exact .inr (hoth _ i e).symm
      · intro i hi
        refine hoth _ i fun e => hi ?_
        rw [insE, if_pos h1, e, ← hj]
        simp
      · rw [leadsE_sw (by omega) (by omega)]
        unfold swV
        rw [hj, Int.toNat_natCast, hget]
        cases t.2.2.1 with
        | true => rw [if_pos ⟨rfl, by simp; omega⟩]; simp; omega
        | false => rw [if_neg (by simp)]; simp
    · have hi : insE (n + 1) t = t.2.2.2.flatMap (insE n) := if_neg (by omega)
      rw [hi] at hn ⊢
      have hc2 : ∀ u ∈ t.2.2.2, FineE k n u ∧ Can k n u := fun u hu => ⟨hf.2 u hu, can_at k n u (hf.2 u hu) (by
        obtain ⟨s, r, e⟩ := List.append_of_mem hu
        rw [e, List.flatMap_append, List.flatMap_cons] at hn
        exact (List.nodup_append.1 (List.nodup_append.1 hn).2.1).1)⟩
      rcases h1 with h1 | h1
      · rw [leadsE_two h1] at hv
        obtain ⟨y, m, e⟩ := can_dec k n 0 (.inl rfl) t.2.2.2 hc2 hn x hl hs hv c hc
        exact ⟨y, m, by rw [leadsE_two h1]; exact e⟩
      · rw [leadsE_three h1] at hv
        obtain ⟨y, m, e⟩ := can_dec k n 1 (.inr rfl) t.2.2.2 hc2 hn x hl hs hv c hc
        exact ⟨y, m, by rw [leadsE_three h1]; exact e⟩
end Go.Proofs.Ytidnhafllbckcaa
