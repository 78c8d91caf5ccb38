/- NetTurns: what it needs besides; nets that are wrong. -/
import Derived.Test.YtfhamfgcjdhmdaaDoorNLaw2
namespace Go.Proofs.YtfhamfgcjdhmdaaDoor
open Go.RowKit
set_option linter.unusedVariables false

/-- 1 at one node. -/
def dlt (x y : Nat) : Int := if y = x then 1 else 0

theorem comb_snoc (c : List Int) (E : List Pr) (x : Int) (p : Pr) (s : Nat → Int) (h : c.length = E.length) : comb (c ++ [x]) (E ++ [p]) s = comb c E s + x * (s p.1 - s p.2) := by
  rw [comb_append _ _ _ _ _ h]
  simp [comb]

/-- What comes together at the nodes. -/
def atL (n : Nat) (c : List Int) (E : List Pr) : List Int := (List.range n).map fun x => comb c E (dlt x)

theorem atL_length (n : Nat) (c : List Int) (E : List Pr) : (atL n c E).length = n := by simp [atL]
theorem atL_get (n : Nat) (c : List Int) (E : List Pr) (i : Nat) (h : i < (atL n c E).length) : (atL n c E)[i] = comb c E (dlt i) := by simp [atL]

theorem atL_step (n : Nat) (c : List Int) (E : List Pr) (x : Int) (a b : Nat) (h : c.length = E.length) (ha : a < n) (hb : b < n) :
    ((atL n c E).set a (comb c E (dlt a) + x)).set b ((((atL n c E).set a (comb c E (dlt a) + x)).getD b 0) - x) = atL n (c ++ [x]) (E ++ [(a, b)]) := by
  apply List.ext_getElem
  · simp [atL]
  · intro i h1 h2
    have hi : i < n := by simpa [atL] using h1
    rw [atL_get, comb_snoc _ _ _ _ _ h, List.getElem_set]
    by_cases e : b = i
    · subst e
      rw [if_pos rfl, List.getD_eq_getElem?_getD, List.getElem?_set]
      by_cases e2 : a = b
      · subst e2
        simp [atL_length, ha, dlt]
      · have e3 : ¬ b = a := fun h => e2 h.symm
        rw [if_neg e2, List.getElem?_eq_getElem (by rw [atL_length]; exact hb), Option.getD_some, atL_get]
        have d1 : dlt b a = 0 := by simp [dlt, e2]
        have d2 : dlt b b = 1 := by simp [dlt]
        simp only [d1, d2]
        omega
    · have e' : ¬ i = b := fun h => e h.symm
      rw [if_neg e, List.getElem_set]
      have d2 : dlt i b = 0 := by simp [dlt, e]
      by_cases e2 : a = i
      · subst e2
        have d1 : dlt a a = 1 := by simp [dlt]
        simp only [if_true, d1, d2]
        omega
      · have d1 : dlt i a = 0 := by simp [dlt, e2]
        rw [if_neg e2, atL_get]
        simp only [d1, d2]
        omega

theorem comb_bd (s : Nat → Int) (hs : ∀ x, s x = 0 ∨ s x = 1) : ∀ (E : List Pr) (c : List Int), (∀ x ∈ c, -1 ≤ x ∧ x ≤ 1) → - (E.length : Int) ≤ comb c E s ∧ comb c E s ≤ (E.length : Int) := by
  intro E
  induction E with
  | nil => intro c _; cases c <;> simp [comb]
  | cons p q ih =>
    intro c hc
    match c with
    | [] => simp only [comb]; constructor <;> omega
    | x :: c =>
      have h1 := ih c (fun y hy => hc y (by simp [hy]))
      have h2 := hc x (by simp)
      have h3 := hs p.1
      have h4 := hs p.2
      simp only [comb, List.length_cons]
      have h5 : -1 ≤ x * (s p.1 - s p.2) ∧ x * (s p.1 - s p.2) ≤ 1 := by
        have : s p.1 - s p.2 = 0 ∨ s p.1 - s p.2 = 1 ∨ s p.1 - s p.2 = -1 := by omega
        rcases this with h | h | h <;> rw [h] <;> omega
      omega

theorem dlt_bd (x y : Nat) : dlt x y = 0 ∨ dlt x y = 1 := by
  unfold dlt
  split
  · exact .inr rfl
  · exact .inl rfl

theorem loopVec_bd (m part : Nat) (T : List Nat) (css : List (List Int)) (h : ∀ i (h : i < css.length), ∀ x ∈ css[i], -1 ≤ x ∧ x ≤ 1) : ∀ x ∈ loopVec m part T css, -1 ≤ x ∧ x ≤ 1 := by
  have key : ∀ i, ∀ x ∈ loopUpto m part T css i, -1 ≤ x ∧ x ≤ 1 := by
    intro i
    induction i with
    | zero =>
      intro x hx
      have := List.eq_of_mem_replicate hx
      omega
    | succ i ih =>
      intro x hx
      rcases List.mem_or_eq_of_mem_set hx with h1 | h1
      · exact ih x h1
      · have : -1 ≤ (css.getD i []).getD part 0 ∧ (css.getD i []).getD part 0 ≤ 1 := by
          by_cases hi : i < css.length
          · have e : css.getD i [] = css[i] := by simp [List.getD, hi]
            rw [e]
            by_cases hp : part < css[i].length
            · have e2 : css[i].getD part 0 = css[i][part] := by simp [List.getD, hp]
              rw [e2]
              exact h i hi _ (List.getElem_mem _)
            · have e2 : css[i].getD part 0 = 0 := by simp [List.getD, hp]
              rw [e2]
              omega
          · have e : css.getD i [] = [] := by simp [List.getD, hi]
            rw [e]
            simp
        omega
  intro x hx
  rcases List.mem_or_eq_of_mem_set hx with h1 | h1
  · exact key _ x h1
  · omega

/-- Two faults that are the same. -/
theorem fault_same (C1 C2 : Int) (W : World) : (binOp .neq 29 (.agg #[.int .i64 C1, .int .i64 C2]) (.agg #[.int .i64 C1, .int .i64 C2])).run Tryd.prog W = .ok (.bool false) W := by
  go_simp

set_option maxHeartbeats 4000000 in
set_option maxRecDepth 10000 in
theorem netTurns_bad (nodes : Int) (pv : Value) (ps : List Prt) (w : World) (hb : Base w) (hp : PartsAt w pv ps) (hC : (checkN nodes ps).1 ≠ 0) :
    Calls Tryd.prog 3 #[.agg #[.int .i64 nodes, pv]] w fun e w' => e = .returned (.bool true) ∧ w.grownBy w' none := by
  have HB := hide hb
  have HP := hide hp
  have HC := hide hC
  obtain ⟨ao, cap, rfl, h1, h2, h3⟩ := hp
  clear h3 hb h2 hC
  go_enter Tryd.func3, Tryd.ntmps3
  go_wp2_with fail
  have gW : w.grownBy (w.alloc (Obj.cells #[.int .i64 nodes, .slice ao ps.length cap] 24)) none := gr_alloc (gr_refl _ _) _
  have GW := hide gW
  clear gW
  refine (looped_at _ (HB.out.keep GW.out)).mono ?_
  rintro e w1 ⟨rfl, a1⟩
  have A0 := hide a1
  have A1 := hide (gr_none GW.out a1)
  have b0 := a1.cell (a := ⟨w.heap.size, 0, none⟩) (v := .int .i64 nodes) (by go_simp) (by simp)
  have b1 := a1.cell (a := ⟨w.heap.size, 1, none⟩) (v := .slice ao ps.length cap) (by go_simp) (by simp)
  clear a1
  go_wp2_with fail
  refine (loops_bad nodes _ ps _ (HB.out.keep A1.out) (HP.out.keep A1.out) HC.out).mono ?_
  intro e w2 hE
  obtain ⟨rfl, c1⟩ := hE
  obtain ⟨C, hC'⟩ : ∃ C, C = checkN nodes ps := ⟨_, rfl⟩
  have HC2 := HC.out
  rw [← hC'] at HC2 ⊢
  obtain ⟨C1, C2⟩ := C
  have HCC := hide hC'
  have hz := ne_beq (c := C1) HC2
  have c0 := c1.cell b0 (by simp)
  have c1' := c1.cell b1 (by simp)
  have K2 := hide (gr_none A1.out c1)
  have hs2 : w.heap.size < w2.heap.size := by have := A0.out.size; have := c1.size; simp at *; omega
  clear hC' HC2 c1 b0 b1
  go_wp2_with fail
  refine (cuts_bad nodes _ ps _ (HB.out.keep (gr_alloc K2.out _)) (HP.out.keep (gr_alloc K2.out _)) HC.out).mono ?_
  intro e w3 hE
  obtain ⟨rfl, d1⟩ := hE
  rw [← HCC.out]
  have D0 := hide d1
  have K3 := hide (gr_none (gr_alloc K2.out _) d1)
  have d0 := (gr_none (gr_alloc (gr_refl w2 none) _) d1).cell c0 (by simp)
  have d1' := (gr_none (gr_alloc (gr_refl w2 none) _) d1).cell c1' (by simp)
  have q2 := (res_two d1).1
  have q2' := (res_two d1).2.1
  have hs3 : w2.heap.size < w3.heap.size := by have := d1.size; simp at this; omega
  have hs3' : w.heap.size < w3.heap.size := by omega
  clear d1 c0 c1'
  go_wp2_with fail
  refine (islands_bad nodes _ ps _ (HB.out.keep (gr_alloc K3.out _)) (HP.out.keep (gr_alloc K3.out _)) HC.out).mono ?_
  intro e w4 hE
  obtain ⟨rfl, e1⟩ := hE
  rw [← HCC.out]
  have K4 := hide (gr_none (gr_alloc K3.out _) e1)
  have p2 := (gr_none (gr_alloc (gr_refl w3 none) _) e1).cell q2 (by simp)
  have p2' := (gr_none (gr_alloc (gr_refl w3 none) _) e1).cell q2' (by simp)
  have p3 := (res_two e1).1
  have p3' := (res_two e1).2.1
  have hs4 : w2.heap.size < w4.heap.size := by have := e1.size; simp at this; omega
  have hs4' : w3.heap.size < w4.heap.size := by have := e1.size; simp at this; omega
  have hsame := fault_same C1 C2
  clear e1 q2 q2' d0 d1'
  go_wp2
  go_ret
  exact ⟨rfl, gr_alloc K4.out _⟩
end Go.Proofs.YtfhamfgcjdhmdaaDoor
