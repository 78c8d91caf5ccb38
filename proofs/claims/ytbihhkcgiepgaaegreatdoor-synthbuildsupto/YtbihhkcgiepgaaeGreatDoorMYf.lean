/- The closed facts' numbers: (1 + s s)/s and -1. -/
import Derived.Test.YtbihhkcgiepgaaeGreatDoorMYd
import Derived.Test.YtbihhkcgiepgaaeGreatDoorMYe
namespace Go.Proofs.YtbihhkcgiepgaaeGreatDoor
open Go.RowKit
set_option linter.unusedVariables false
set_option linter.unusedSimpArgs false

def z1U : Nat → Rat := pol [1, 0, 1]
def z1D : Nat → Rat := pol [0, 1]
def z2U : Nat → Rat := pol [-1]
def z2D : Nat → Rat := pol [1]

theorem pol_out {l : List Rat} {i : Nat} (h : l.length ≤ i) : pol l i = 0 := by
  unfold pol
  rw [List.getD_eq_getElem?_getD, List.getElem?_eq_none h]
  rfl

theorem fit0 : FitW 3 0 := by unfold FitW; decide +kernel
theorem fit1 : FitW 3 1 := by unfold FitW; decide +kernel
theorem fitm : FitW 3 (-1) := by unfold FitW; decide +kernel

theorem fit_all {f : Nat → Rat} (k : Nat) (h : ∀ i, i < k → f i = 0 ∨ f i = 1 ∨ f i = -1) (h0 : ∀ i, k ≤ i → f i = 0) (i : Nat) : FitW 3 (f i) := by
  by_cases hi : i < k
  · rcases h i hi with e | e | e <;> rw [e]
    · exact fit0
    · exact fit1
    · exact fitm
  · rw [h0 i (by omega)]; exact fit0

theorem pl1U : PL z1U 3 := ⟨fun i hi => pol_out hi, fun _ => by decide⟩
theorem pl1D : PL z1D 2 := ⟨fun i hi => pol_out hi, fun _ => by decide⟩
theorem pl2U : PL z2U 1 := ⟨fun i hi => pol_out hi, fun _ => by decide⟩
theorem pl2D : PL z2D 1 := ⟨fun i hi => pol_out hi, fun _ => by decide⟩

theorem in1U : ∀ i, i < 3 → z1U i = 0 ∨ z1U i = 1 ∨ z1U i = -1 := fun i h => by
  have h : i = 0 ∨ i = 1 ∨ i = 2 := by omega
  rcases h with rfl | rfl | rfl
  · right; left; rfl
  · left; rfl
  · right; left; rfl
theorem in1D : ∀ i, i < 2 → z1D i = 0 ∨ z1D i = 1 ∨ z1D i = -1 := fun i h => by
  have h : i = 0 ∨ i = 1 := by omega
  rcases h with rfl | rfl
  · left; rfl
  · right; left; rfl
theorem in2U : ∀ i, i < 1 → z2U i = 0 ∨ z2U i = 1 ∨ z2U i = -1 := fun i h => by
  obtain rfl : i = 0 := by omega
  right; right; rfl
theorem in2D : ∀ i, i < 1 → z2D i = 0 ∨ z2D i = 1 ∨ z2D i = -1 := fun i h => by
  obtain rfl : i = 0 := by omega
  right; left; rfl

theorem f1U (i : Nat) : FitW 3 (z1U i) := fit_all 3 in1U pl1U.1 i
theorem f1D (i : Nat) : FitW 3 (z1D i) := fit_all 2 in1D pl1D.1 i
theorem f2U (i : Nat) : FitW 3 (z2U i) := fit_all 1 in2U pl2U.1 i
theorem f2D (i : Nat) : FitW 3 (z2D i) := fit_all 1 in2D pl2D.1 i

theorem smp1U : Smp z1U 3 3 := ⟨pl1U, by decide +kernel, fun i hi => by
  have h : i = 0 ∨ i = 1 ∨ i = 2 ∨ i = 3 := by omega
  rcases h with rfl | rfl | rfl | rfl <;> (unfold FitW; decide +kernel), f1U⟩
theorem smp1D : Smp z1D 2 3 := ⟨pl1D, by decide +kernel, fun i hi => by
  have h : i = 0 ∨ i = 1 ∨ i = 2 := by omega
  rcases h with rfl | rfl | rfl <;> (unfold FitW; decide +kernel), f1D⟩
theorem smp2U : Smp z2U 1 3 := ⟨pl2U, by decide +kernel, fun i hi => by
  have h : i = 0 ∨ i = 1 := by omega
  rcases h with rfl | rfl <;> (unfold FitW; decide +kernel), f2U⟩
theorem smp2D : Smp z2D 1 3 := ⟨pl2D, by decide +kernel, fun i hi => by
  have h : i = 0 ∨ i = 1 := by omega
  rcases h with rfl | rfl <;> (unfold FitW; decide +kernel), f2D⟩

theorem leftV_whole {q : Rat} (h : q.den = 1) : leftV 4294967291 q = leftU 4294967291 q := by
  unfold leftV
  rw [h, show 1 % 4294967291 = 1 from rfl, turnN_one _ (by decide), Nat.mul_one, Nat.mod_eq_of_lt (leftU_lt _ _ (by decide))]

theorem lv1 : leftV 4294967291 1 = 1 := by rw [leftV_whole rfl]; decide +kernel
theorem lv0 : leftV 4294967291 0 = 0 := by rw [leftV_whole rfl]; decide +kernel
theorem lvm : leftV 4294967291 (-1) = 4294967290 := by rw [leftV_whole rfl]; decide +kernel

theorem short1U : shortL z1U 3 = [1, 0, 1] := by
  show [leftV 4294967291 1, leftV 4294967291 0, leftV 4294967291 1] = _
  rw [lv1, lv0]
theorem short1D : shortL z1D 2 = [0, 1] := by
  show [leftV 4294967291 0, leftV 4294967291 1] = _
  rw [lv1, lv0]
theorem short2U : shortL z2U 1 = [4294967290] := by
  show [leftV 4294967291 (-1)] = _
  rw [lvm]
theorem short2D : shortL z2D 1 = [1] := by
  show [leftV 4294967291 1] = _
  rw [lv1]

theorem den_in {q : Rat} (h : q = 0 ∨ q = 1 ∨ q = -1) : q.den % 4294967291 ≠ 0 := by
  rcases h with rfl | rfl | rfl <;> decide

theorem sho1U : Sho z1U 2 := ⟨fun i hi => den_in (in1U i (by omega)), by show leftV 4294967291 1 ≠ 0; rw [lv1]; decide⟩
theorem sho1D : Sho z1D 1 := ⟨fun i hi => den_in (in1D i (by omega)), by show leftV 4294967291 1 ≠ 0; rw [lv1]; decide⟩
theorem sho2U : Sho z2U 0 := ⟨fun i hi => den_in (in2U i (by omega)), by show leftV 4294967291 (-1) ≠ 0; rw [lvm]; decide⟩
theorem sho2D : Sho z2D 0 := ⟨fun i hi => den_in (in2D i (by omega)), by show leftV 4294967291 1 ≠ 0; rw [lv1]; decide⟩

theorem rst1 : restS 4294967291 1 (shortL z1D 2) 4 (shortL z1U 3) = [1] := by rw [short1U, short1D]; decide +kernel
theorem rst2 : restS 4294967291 1 [1] 3 (shortL z1D 2) = [] := by rw [short1D]; decide +kernel
theorem rst3 : restS 4294967291 1 (shortL z2D 1) 2 (shortL z2U 1) = [] := by rw [short2U, short2D]; decide +kernel

theorem par0 : parC z2U z2D 0 1 1 = fun _ => 0 := by
  funext j
  show parS z2D 0 z2U 0 j = 0
  unfold parS
  by_cases h : 0 ≤ j ∧ j ≤ 0 + 0
  · obtain rfl : j = 0 := by omega
    rw [if_pos h]
    decide +kernel
  · rw [if_neg h]
    exact pl2U.1 j (by omega)
theorem par1 (j : Nat) : parO z2U z2D 0 1 j = z2U j := by
  unfold parO
  by_cases h : j < 1
  · obtain rfl : j = 0 := by omega
    rw [if_pos h]
    decide +kernel
  · rw [if_neg h]
    exact (pl2U.1 j (by omega)).symm
theorem par2 : ∀ t, t ≤ 1 → ∀ j, FitW 3 (parC z2U z2D 0 1 t j) := fun t h j => by
  have h : t = 0 ∨ t = 1 := by omega
  rcases h with rfl | rfl
  · exact f2U j
  · rw [par0]; exact fit0
theorem par3 : trimLen (parC z2U z2D 0 1 1) 1 = 0 := by rw [par0]; decide +kernel

theorem mir1 : mirP z1D = pol [0, -1] := by
  funext i
  unfold mirP
  by_cases h : i < 2
  · have h : i = 0 ∨ i = 1 := by omega
    rcases h with rfl | rfl <;> decide +kernel
  · rw [pl1D.1 i (by omega), sgnP_zero, pol_out (by simpa using h)]
theorem mir2 : mirP z2D = pol [1] := by
  funext i
  unfold mirP
  by_cases h : i < 1
  · obtain rfl : i = 0 := by omega
    decide +kernel
  · rw [pl2D.1 i (by omega), sgnP_zero, pol_out (by simp; omega)]

theorem whole_all {f : Nat → Rat} (k : Nat) (h : ∀ i, i < k → f i = 0 ∨ f i = 1 ∨ f i = -1) (h0 : ∀ i, k ≤ i → f i = 0) (i : Nat) : (f i).den = 1 := by
  by_cases hi : i < k
  · rcases h i hi with e | e | e <;> rw [e] <;> rfl
  · rw [h0 i (by omega)]; rfl

theorem inm : ∀ i, i < 2 → pol [0, -1] i = 0 ∨ pol [0, -1] i = 1 ∨ pol [0, -1] i = -1 := fun i h => by
  have h : i = 0 ∨ i = 1 := by omega
  rcases h with rfl | rfl
  · left; rfl
  · right; right; rfl

theorem one_mul_fun (f : Nat → Rat) : (fun i => 1 * f i) = f := funext fun i => Rat.one_mul _

/-- Whole polynomials of noughts and ones: all that comes up in their product is short, if the product's parts are. -/
theorem tim_ok {p q : Nat → Rat} {n m : Nat} (hp : PL p n) (hq : PL q m) (wp : ∀ i, (p i).den = 1) (wq : ∀ i, (q i).den = 1) (fp : ∀ i, FitW 3 (p i)) (fq : ∀ i, FitW 3 (q i)) (n0 : 0 < n) (m0 : 0 < m) (nl : n ≤ 1000) (ml : m ≤ 1000)
    (f3 : ∀ i, i ≤ n → ∀ j, FitW 3 (cnvR p q m i j)) : TimOk p q n m 3 ∧ timP p q n m = cnvR p q m n := by
  have b1 := barP_whole wp n
  have b2 := barP_whole wq m
  have e : timP p q n m = cnvR p q m n := by
    funext j
    unfold timP
    rw [b1, b2, one_mul_fun, one_mul_fun, Rat.mul_one, Rat.div_def, show (1 : Rat)⁻¹ = 1 by decide +kernel, Rat.mul_one]
  refine ⟨⟨hp, hq, n0, m0, nl, ml, fun i _ => by rw [barP_whole wp i]; exact fit1, fun i _ => by rw [barP_whole wq i]; exact fit1, by rw [b1]; decide, by rw [b2]; decide, fun i => by rw [b1, Rat.one_mul]; exact fp i, fun i => by rw [b2, Rat.one_mul]; exact fq i, fun i hi j => ?_, fun j => ?_⟩, e⟩
  · rw [b1, b2, one_mul_fun, one_mul_fun]
    exact f3 i hi j
  · rw [e]
    exact f3 n (Nat.le_refl _) j

theorem fit_cnv {p q : Nat → Rat} {n m N : Nat} (hN : N + 1 = n + m) (h : ∀ i, i ≤ n → ∀ j, j < N → cnvR p q m i j = 0 ∨ cnvR p q m i j = 1 ∨ cnvR p q m i j = -1) : ∀ i, i ≤ n → ∀ j, FitW 3 (cnvR p q m i j) := fun i hi j => by
  by_cases hj : j < N
  · rcases h i hi j hj with e | e | e <;> rw [e]
    · exact fit0
    · exact fit1
    · exact fitm
  · rw [cnvR_out i j (by omega)]; exact fit0

theorem cnv1 : ∀ i, i ≤ 3 → ∀ j, j < 4 → cnvR z1U (pol [0, -1]) 2 i j = 0 ∨ cnvR z1U (pol [0, -1]) 2 i j = 1 ∨ cnvR z1U (pol [0, -1]) 2 i j = -1 := fun i hi j hj => by
  have h : i = 0 ∨ i = 1 ∨ i = 2 ∨ i = 3 := by omega
  have k : j = 0 ∨ j = 1 ∨ j = 2 ∨ j = 3 := by omega
  rcases h with rfl | rfl | rfl | rfl <;> rcases k with rfl | rfl | rfl | rfl <;> decide +kernel
theorem cnv2 : ∀ i, i ≤ 1 → ∀ j, j < 1 → cnvR z2U (pol [1]) 1 i j = 0 ∨ cnvR z2U (pol [1]) 1 i j = 1 ∨ cnvR z2U (pol [1]) 1 i j = -1 := fun i hi j hj => by
  have h : i = 0 ∨ i = 1 := by omega
  obtain rfl : j = 0 := by omega
  rcases h with rfl | rfl <;> decide +kernel

theorem tim1 : TimOk z1U (mirP z1D) 3 2 3 ∧ timP z1U (mirP z1D) 3 2 = pol [0, -1, 0, -1] := by
  rw [mir1]
  obtain ⟨h1, h2⟩ := tim_ok (p := z1U) (q := pol [0, -1]) (n := 3) (m := 2) pl1U (by rw [← mir1]; exact PL_mir pl1D) (whole_all 3 in1U pl1U.1) (whole_all 2 inm (fun i hi => pol_out hi)) f1U (fit_all 2 inm (fun i hi => pol_out hi)) (by decide) (by decide) (by decide) (by decide) (fit_cnv (N := 4) rfl cnv1)
  refine ⟨h1, ?_⟩
  rw [h2]
  funext j
  by_cases hj : j < 4
  · have k : j = 0 ∨ j = 1 ∨ j = 2 ∨ j = 3 := by omega
    rcases k with rfl | rfl | rfl | rfl <;> decide +kernel
  · rw [cnvR_out 3 j (by omega), pol_out (by simpa using hj)]
theorem tim2 : TimOk z2U (mirP z2D) 1 1 3 ∧ timP z2U (mirP z2D) 1 1 = z2U := by
  rw [mir2]
  obtain ⟨h1, h2⟩ := tim_ok (p := z2U) (q := pol [1]) (n := 1) (m := 1) pl2U (by rw [← mir2]; exact PL_mir pl2D) (whole_all 1 in2U pl2U.1) (whole_all 1 in2D pl2D.1) f2U f2D (by decide) (by decide) (by decide) (by decide) (fit_cnv (N := 1) rfl cnv2)
  refine ⟨h1, ?_⟩
  rw [h2]
  funext j
  by_cases hj : j < 1
  · obtain rfl : j = 0 := by omega
    decide +kernel
  · rw [cnvR_out 1 j (by omega), pl2U.1 j (by omega)]

theorem plT1 : PL (timP z1U (mirP z1D) 3 2) 4 := by
  rw [tim1.2]
  exact ⟨fun i hi => pol_out hi, fun _ => by decide⟩
theorem plT2 : PL (timP z2U (mirP z2D) 1 1) 1 := by rw [tim2.2]; exact pl2U

theorem alo1 : PL (alongP (timP z1U (mirP z1D) 3 2)) 0 := by
  rw [tim1.2]
  refine ⟨fun i _ => ?_, fun h => by omega⟩
  unfold alongP
  by_cases hi : i < 2
  · have h : i = 0 ∨ i = 1 := by omega
    rcases h with rfl | rfl <;> decide +kernel
  · rw [pol_out (by simp; omega), sgnP_zero]
theorem alo2 : alongP (timP z2U (mirP z2D) 1 1) = z2U := by
  rw [tim2.2]
  funext i
  unfold alongP
  by_cases hi : i < 1
  · obtain rfl : i = 0 := by omega
    decide +kernel
  · rw [pl2U.1 _ (by omega), sgnP_zero, pl2U.1 i (by omega)]

def z1S : Nat → Rat := pol [1, 1, 1]
theorem pl1S : PL z1S 3 := ⟨fun i hi => pol_out hi, fun _ => by decide⟩
theorem sum1 (i : Nat) : z1U i + z1D i = z1S i := by
  by_cases h : i < 3
  · have h : i = 0 ∨ i = 1 ∨ i = 2 := by omega
    rcases h with rfl | rfl | rfl <;> decide +kernel
  · rw [pl1U.1 i (by omega), pl1D.1 i (by omega), pl1S.1 i (by omega), Rat.add_zero]
theorem f1S (i : Nat) : FitW 3 (z1S i) := fit_all 3 (fun i h => by
  have h : i = 0 ∨ i = 1 ∨ i = 2 := by omega
  rcases h with rfl | rfl | rfl <;> (right; left; rfl)) pl1S.1 i

def ls5 : List ByteArray := [⟨#[49]⟩, ⟨#[49]⟩, ⟨#[49]⟩]
theorem texts5 : textsL z1S 3 = ls5 := by
  have h : qtext 1 = [49] := by decide +kernel
  show [(⟨(qtext 1).toArray⟩ : ByteArray), ⟨(qtext 1).toArray⟩, ⟨(qtext 1).toArray⟩] = _
  rw [h]
  rfl

theorem p5_0 : polyQ ls5 0 = 1 := by decide +kernel
theorem p5_1 : polyQ ls5 1 = 1 := by decide +kernel
theorem p5_2 : polyQ ls5 2 = 1 := by decide +kernel
theorem PL5 : PL (polyQ ls5) 3 := ⟨fun i hi => polyQ_out hi, fun _ => by rw [show 3 - 1 = 2 from rfl, p5_2]; decide⟩
theorem f5_0 : fstR (polyQ ls5) 3 0 = 1 := by decide +kernel
theorem f5_1 : fstR (polyQ ls5) 3 1 = 1 := by decide +kernel
theorem f5_2 : fstR (polyQ ls5) 3 2 = 1 := by decide +kernel
theorem f5_ne : ∀ i, 1 ≤ i → i ≤ 2 → fstR (polyQ ls5) 3 i ≠ 0 := by
  intro i h1 h2
  have h : i = 1 ∨ i = 2 := by omega
  rcases h with rfl | rfl
  · rw [f5_1]; decide
  · rw [f5_2]; decide
theorem cnt5 {a b c : Int} (h : CntV (polyQ ls5) 3 a b c) : a = 2 ∧ b = 0 ∧ c = 0 := by
  obtain ⟨h1, h2, h3⟩ := cnt_routh (N := 2) PL5 f5_ne h
  have e : chgN (fstR (polyQ ls5) 3) 2 = 0 := by
    simp only [chgN, f5_0, f5_1, f5_2]
    decide +kernel
  have e' : chgN (fstR (polyQ ls5) (2 + 1)) 2 = 0 := e
  rw [e'] at h2 h3
  exact ⟨by rw [h3]; rfl, h1, by rw [h2]; rfl⟩
end Go.Proofs.YtbihhkcgiepgaaeGreatDoor

namespace Go.Proofs.YtbihhkcgiepgaaeGreatDoor
open Go.RowKit
set_option linter.unusedVariables false
set_option linter.unusedSimpArgs false

/-- What OfRatio answers of a right fraction. -/
def OfrE (w : World) (p q : Nat → Rat) (n m L : Nat) (e : Ending) (w' : World) : Prop :=
  ∃ uo uc do_ dc, e = .returned (.tuple #[.agg #[.slice uo n uc, .slice do_ m dc], .int .i64 0]) ∧ Rw w' (.slice uo n uc) n p L ∧ Rw w' (.slice do_ m dc) m q L ∧ w.grownBy w' none

set_option maxHeartbeats 4000000 in
set_option maxRecDepth 10000 in
theorem ofRatio_at (uo do_ : Option Addr) (uc dc a b : Nat) (lu ld : List ByteArray) (n m N M : Nat) (p q P Q : Nat → Rat) (L : Nat) (w : World) (hu : RowG sv w (.slice uo a uc) lu) (hd : RowG sv w (.slice do_ b dc) ld) (ha : lu.length = a) (hb : ld.length = b) (ha2 : a ≤ 13) (hb2 : b ≤ 13)
    (su : ∀ i (h : i < lu.length), (lu[i]).size ≤ 600000000 ∧ (lu[i]).size + 1 ≤ L) (sd : ∀ i (h : i < ld.length), (ld[i]).size ≤ 600000000 ∧ (ld[i]).size + 1 ≤ L) (eu : polyQ lu = p) (ed : polyQ ld = q) (hp : PL p n) (hq : PL q m) (hm0 : 0 < m) (hml : MLen w)
    (low : ∀ x y wx, w.grownBy wx none → Rw wx x n p L → Rw wx y m q L → Calls Tryz.prog 143 #[x, y] wx fun e w' => RatE wx P Q N M L e w') :
    Calls Tryz.prog 65 #[.agg #[.slice uo a uc, .slice do_ b dc]] w fun e w' => OfrE w P Q N M L e w' := by
  have HU := hide hu
  have HD := hide hd
  have SU := hide su
  have SD := hide sd
  have EU := hide eu
  have ED := hide ed
  have HP := hide hp
  have HQ := hide hq
  have HM := hide hml
  have LOW := hide low
  have HA := hide ha
  have HB := hide hb
  clear hu hd su sd eu ed hp hq hml low ha hb
  obtain ⟨W, hW⟩ : ∃ W, W = (w.alloc (Obj.cells #[.slice uo a uc, .slice do_ b dc] 46)).alloc (Obj.cells #[.slice none 0 0, .slice none 0 0] 115) := ⟨_, rfl⟩
  have GW : Hid (w.grownBy W none) := by rw [hW]; exact gr_alloc (gr_alloc (gr_refl _ _) _) _
  have BX : Hid (∀ wx, W.grownBy wx none → wx.heap[w.heap.size]? = some (.cells #[.slice uo a uc, .slice do_ b dc] 46 (0, 0))) := by
    intro wx hg
    rw [hW] at hg
    have hg2 := gr_none (gr_alloc (gr_refl _ none) _) hg
    rw [hg2.block w.heap.size (by simp) (by simp)]
    exact heap_alloc_new _ _
  have RES : Hid (∀ wx, W.grownBy wx none → wx.heap[w.heap.size + 1]? = some (.cells #[.slice none 0 0, .slice none 0 0] 115 (0, 0))) := by
    intro wx hg
    rw [hW] at hg
    have hs : (w.alloc (Obj.cells #[.slice uo a uc, .slice do_ b dc] 46)).heap.size = w.heap.size + 1 := by simp
    rw [← hs, hg.block _ (by simp) (by simp)]
    exact heap_alloc_new _ _
  obtain ⟨s0, s1, _⟩ := two_cells (BX.out W (gr_refl _ _))
  have hmax : ¬ ((13 : Int) < max ((a : Nat) : Int) ((b : Nat) : Int)) := by omega
  have hmx : max ((a : Nat) : Int) ((b : Nat) : Int) ≤ 13 := by omega
  go_enter Tryz.func65, Tryz.ntmps65
  go_upto_region 1 with fail
  rw [← hW]
  clear hW
  go_wp2_with fail
  refine (pof_at _ ld L W (HD.out.keep GW.out) (by rw [HB.out]; omega) SD.out (HM.out.keep0 GW.out)).mono ?_
  intro e w1 h
  rw [ED.out] at h
  obtain ⟨ao, ac, rfl, a1, a2⟩ := h.get HQ.out
  have A1 := hide a1
  have A2 := hide a2
  have ez : Hid (decide (m = 0) = false) := decide_eq_false (by omega)
  clear a1 a2 h s0 s1 hmax hmx
  go_wp2_with fail
  refine (pzero_at _ m q L w1 A1.out).mono ?_
  rintro e w2 ⟨rfl, rfl⟩
  rw [ez.out]
  obtain ⟨s0, s1, _⟩ := two_cells (BX.out _ A2.out)
  go_wp2_with fail
  refine (pof_at _ lu L _ (HU.out.keep (gr_none GW.out A2.out)) (by rw [HA.out]; omega) SU.out (HM.out.keep0 (gr_none GW.out A2.out))).mono ?_
  intro e w3 h
  rw [EU.out] at h
  obtain ⟨bo, bc, rfl, b1, b2⟩ := h.get HP.out
  have B1 := hide b1
  have A3 := hide (A1.out.keep0 b2)
  have G3 := hide (gr_none A2.out b2)
  clear b1 b2 h s0 s1
  go_wp2_with fail
  refine (LOW.out _ _ w3 (gr_none GW.out G3.out) B1.out A3.out).mono ?_
  rintro e w4 ⟨eo, ec, fo, fc, rfl, f1, f2, f3⟩
  have F1 := hide f1
  have F2 := hide f2
  have G4 := hide (gr_none G3.out f3)
  have RB := hide (RES.out w4 G4.out)
  obtain ⟨r0, r1, rf⟩ := two_cells RB.out
  have rf0 := rf 0
  have rf1 := rf 1
  obtain ⟨z1, z2, z3⟩ := rw_put2 RB.out (.slice eo N ec) (.slice fo M fc)
  have Z1 := hide z1
  have Z3 := hide z3
  clear z1 z2 z3 rf f1 f2 f3
  go_wp2
  refine bodyPost_ret (v := .tuple #[.agg #[.slice eo N ec, .slice fo M fc], .int .i64 0]) (by first | (simp [results, Tryz.results65, go_sem, r0, r1]; done) | (simp [results, Tryz.results65, go_sem, r0, r1]; rfl)) rfl ?_
  exact ⟨_, _, _, _, rfl, Z3.out _ _ _ _ F1.out, Z3.out _ _ _ _ F2.out, gr_own2 (gr_none GW.out G4.out) Z1.out (fun b e => by cases e; exact Nat.le_succ _)⟩
end Go.Proofs.YtbihhkcgiepgaaeGreatDoor

namespace Go.Proofs.YtbihhkcgiepgaaeGreatDoor
open Go.RowKit
set_option linter.unusedVariables false
set_option linter.unusedSimpArgs false

def lu1 : List ByteArray := [⟨#[49]⟩, ⟨#[48]⟩, ⟨#[49]⟩]
def ld1 : List ByteArray := [⟨#[48]⟩, ⟨#[49]⟩]
def lu2 : List ByteArray := [⟨#[45, 49]⟩]
def ld2 : List ByteArray := [⟨#[49]⟩]

theorem poly_lu1 : polyQ lu1 = z1U := by
  funext i
  by_cases h : i < 3
  · have h : i = 0 ∨ i = 1 ∨ i = 2 := by omega
    rcases h with rfl | rfl | rfl <;> decide +kernel
  · rw [polyQ_out (by simpa [lu1] using h), pl1U.1 i (by omega)]
theorem poly_ld1 : polyQ ld1 = z1D := by
  funext i
  by_cases h : i < 2
  · have h : i = 0 ∨ i = 1 := by omega
    rcases h with rfl | rfl <;> decide +kernel
  · rw [polyQ_out (by simpa [ld1] using h), pl1D.1 i (by omega)]
theorem poly_lu2 : polyQ lu2 = z2U := by
  funext i
  by_cases h : i < 1
  · obtain rfl : i = 0 := by omega
    decide +kernel
  · rw [polyQ_out (by show 1 ≤ i; omega), pl2U.1 i (by omega)]
theorem poly_ld2 : polyQ ld2 = z2D := by
  funext i
  by_cases h : i < 1
  · obtain rfl : i = 0 := by omega
    decide +kernel
  · rw [polyQ_out (by show 1 ≤ i; omega), pl2D.1 i (by omega)]

theorem size_le {ls : List ByteArray} (h : ls.all (fun s => decide (s.size ≤ 2)) = true) : ∀ i (hi : i < ls.length), (ls[i]).size ≤ 600000000 ∧ (ls[i]).size + 1 ≤ 3 := fun i hi => by
  have := List.all_eq_true.1 h _ (List.getElem_mem hi)
  simp only [decide_eq_true_eq] at this
  omega

theorem ofRatio1 (uo do_ : Option Addr) (uc dc : Nat) (w : World) (hu : RowG sv w (.slice uo 3 uc) lu1) (hd : RowG sv w (.slice do_ 2 dc) ld1) (hml : MLen w) :
    Calls Tryz.prog 65 #[.agg #[.slice uo 3 uc, .slice do_ 2 dc]] w fun e w' => OfrE w z1U z1D 3 2 3 e w' :=
  ofRatio_at uo do_ uc dc 3 2 lu1 ld1 3 2 3 2 z1U z1D z1U z1D 3 w hu hd rfl rfl (by decide) (by decide) (size_le (by decide)) (size_le (by decide)) poly_lu1 poly_ld1 pl1U pl1D (by decide) hml
    (fun x y wx hg hx hy => lowest_bar x y 2 1 z1U z1D 3 wx hx hy smp1U smp1D (by decide) (by decide) (by decide) (by decide) sho1D sho1U rfl lv1 rst1 rst2 (by decide) (by decide) (hml.keep0 hg))

theorem ofRatio2 (uo do_ : Option Addr) (uc dc : Nat) (w : World) (hu : RowG sv w (.slice uo 1 uc) lu2) (hd : RowG sv w (.slice do_ 1 dc) ld2) (hml : MLen w) :
    Calls Tryz.prog 65 #[.agg #[.slice uo 1 uc, .slice do_ 1 dc]] w fun e w' => OfrE w z2U (fun _ => 0) 1 0 3 e w' :=
  ofRatio_at uo do_ uc dc 1 1 lu2 ld2 1 1 1 0 z2U z2D z2U (fun _ => 0) 3 w hu hd rfl rfl (by decide) (by decide) (size_le (by decide)) (size_le (by decide)) poly_lu2 poly_ld2 pl2U pl2D (by decide) hml
    (fun x y wx hg hx hy => (lowest_div x y 0 0 1 z2U z2D 3 wx hx hy pl2D (by decide) (by decide) (by decide) sho2D sho2U lv1 rfl rst3 par2 (fun j => by rw [par1]; exact f2U j) par3 (by decide) (by decide)).mono (fun e w' h => by
      have e1 : parO z2U z2D 0 1 = z2U := funext par1
      rw [e1] at h
      exact h))

theorem vB_small : vB (14 * 131074) 1 ≤ 1000000000000 := by decide +kernel
theorem small_5 {i : Nat} (h : i < ls5.length) : (ls5[i]).size = 1 := by
  have h3 : i < 3 := h
  match i, h3 with
  | 0, _ => rfl
  | 1, _ => rfl
  | 2, _ => rfl

theorem count5_at (v : Value) (w : World) (hl : RowG sv w v ls5) (hml : MLen w) : Calls Tryz.prog 18 #[v] w fun e w' => e = .returned (.tuple #[.int .i64 2, .int .i64 0, .int .i64 0, .int .i64 0]) ∧ w.grownBy w' none := by
  refine (count_at v ls5 131074 1000000000000 w hl hml (fun _ i hi => by rw [small_5 hi]; decide) (by decide) (Nat.le_refl _) vB_small).mono ?_
  rintro e w' ⟨g, a, b, c, f, rfl, h⟩
  refine ⟨?_, g⟩
  rcases h with ⟨h, _⟩ | ⟨_, h, _⟩ | ⟨_, n, h1, h2, h3, h4, h5⟩
  · exact absurd h (by decide)
  · exact absurd (PL_uniq h PL5) (by decide)
  · have hn := PL_uniq h3 PL5
    subst hn
    obtain ⟨rfl, rfl, rfl⟩ := cnt5 h5
    rw [h4]

set_option maxHeartbeats 4000000 in
set_option maxRecDepth 10000 in
theorem positive1 (uo do_ : Option Addr) (uc dc : Nat) (w : World) (hu : RowG sv w (.slice uo 3 uc) lu1) (hd : RowG sv w (.slice do_ 2 dc) ld1) (hml : MLen w) (ht : Tab10 w) :
    Calls Tryz.prog 23 #[.agg #[.slice uo 3 uc, .slice do_ 2 dc]] w fun e w' => e = .returned (.tuple #[.bool true, .int .i64 0]) ∧ w.grownBy w' none := by
  have HU := hide hu
  have HD := hide hd
  have HM := hide hml
  have HT := hide ht
  clear hu hd hml ht
  obtain ⟨W, hW⟩ : ∃ W, W = w.alloc (Obj.cells #[.slice uo 3 uc, .slice do_ 2 dc] 46) := ⟨_, rfl⟩
  have GW : Hid (w.grownBy W none) := by rw [hW]; exact gr_alloc (gr_refl _ _) _
  obtain ⟨s0, s1, _⟩ := two_cells (w := W) (g := w.heap.size) (t := 46) (x := .slice uo 3 uc) (y := .slice do_ 2 dc) (by rw [hW]; exact heap_alloc_new _ _)
  go_enter Tryz.func23, Tryz.ntmps23
  go_upto_region 1 with fail
  rw [← hW]
  clear hW
  go_wp2_with fail
  refine (ofRatio1 uo do_ uc dc W (HU.out.keep GW.out) (HD.out.keep GW.out) (HM.out.keep0 GW.out)).mono ?_
  rintro e w1 ⟨uo1, uc1, do1, dc1, rfl, a1, a2, a3⟩
  have U1 := hide a1
  have D1 := hide a2
  have GW2 := hide (gr_none GW.out a3)
  clear a1 a2 a3 s0 s1
  go_upto_region 2 with fail
  obtain ⟨w2, hw2⟩ : ∃ w2, w2 = w1.alloc (Obj.cells #[.slice uo1 3 uc1, .slice do1 2 dc1] 115) := ⟨_, rfl⟩
  have BG : Hid (w1.grownBy w2 none) := by rw [hw2]; exact gr_alloc (gr_refl _ _) _
  have BX : Hid (∀ wx, w2.grownBy wx none → wx.cell? ⟨w1.heap.size, 0, none⟩ = some (.slice uo1 3 uc1) ∧ wx.cell? ⟨w1.heap.size, 1, none⟩ = some (.slice do1 2 dc1) ∧ ∀ i, wx.frozen? ⟨w1.heap.size, i, none⟩ = false) := by
    intro wx hg
    rw [hw2] at hg
    exact two_cells (by rw [hg.block w1.heap.size (by simp) (by simp)]; exact heap_alloc_new _ _)
  rw [← hw2]
  clear hw2
  go_wp2
  have GG : w2.grownBy w2 none := gr_refl _ _
  obtain ⟨b0, b1, _⟩ := BX.out w2 GG
  go_region_held3 (fun w' => w'.cell? ⟨w1.heap.size, 0, none⟩ = some (.slice uo1 3 uc1) ∧ w'.cell? ⟨w1.heap.size, 1, none⟩ = some (.slice do1 2 dc1)) (go_keep)
    (first
      | (go_at_call 66; refine (rUp_at uo1 do1 3 uc1 2 dc1 _).mono ?_; rintro e wl ⟨rfl, gu⟩; have FU := hide (U1.out.keep0 (gr_none BG.out (gr_none (by first | exact gr_none GG (gr_d _) | exact gr_none GG gr_d1 | exact GG) gu))); (try have FD := hide (FD.out.keep0 (by first | exact gr_none (gr_d _) gu | exact gr_none gr_d1 gu | exact gu))); (try have PD := hide (PD.out.keep0 (by first | exact gr_none (gr_d _) gu | exact gr_none gr_d1 gu | exact gu))); have GG : w2.grownBy wl none := gr_none (by first | exact gr_none GG (gr_d _) | exact gr_none GG gr_d1 | exact GG) gu; obtain ⟨q0, q1, _⟩ := BX.out wl GG; clear gu)
      | (go_at_call 68; refine (rDown_at uo1 do1 3 uc1 2 dc1 _ (by decide) (by decide)).mono ?_; rintro e wl ⟨rfl, gd⟩; have FD := hide (D1.out.keep0 (gr_none BG.out (gr_none (by first | exact gr_none GG (gr_d _) | exact gr_none GG gr_d1 | exact GG) gd))); (try have FU := hide (FU.out.keep0 (by first | exact gr_none (gr_d _) gd | exact gr_none gr_d1 gd | exact gd))); (try have PU := hide (PU.out.keep0 (by first | exact gr_none (gr_d _) gd | exact gr_none gr_d1 gd | exact gd))); have GG : w2.grownBy wl none := gr_none (by first | exact gr_none GG (gr_d _) | exact gr_none GG gr_d1 | exact GG) gd; obtain ⟨q0, q1, _⟩ := BX.out wl GG; clear gd)
      | (go_at_call_of 67 (Value.slice uo1 3 uc1); refine (plain_smp _ 3 z1U 3 _ (FU.out.keep0 (by first | exact gr_d _ | exact gr_d1 | exact gr_refl _ _)) smp1U (by decide) (by decide)).mono ?_; intro e wl hh; obtain ⟨pu, puc, rfl, fp, gp⟩ := hh.get pl1U; have PU := hide fp; (try have FD := hide (FD.out.keep0 (by first | exact gr_none (gr_d _) gp | exact gr_none gr_d1 gp | exact gp))); (try have PD := hide (PD.out.keep0 (by first | exact gr_none (gr_d _) gp | exact gr_none gr_d1 gp | exact gp))); have GG : w2.grownBy wl none := gr_none (by first | exact gr_none GG (gr_d _) | exact gr_none GG gr_d1 | exact GG) gp; obtain ⟨q0, q1, _⟩ := BX.out wl GG; clear gp fp hh)
      | (go_at_call_of 67 (Value.slice do1 2 dc1); refine (plain_smp _ 2 z1D 3 _ (FD.out.keep0 (by first | exact gr_d _ | exact gr_d1 | exact gr_refl _ _)) smp1D (by decide) (by decide)).mono ?_; intro e wl hh; obtain ⟨pd, pdc, rfl, fp, gp⟩ := hh.get pl1D; have PD := hide fp; (try have FU := hide (FU.out.keep0 (by first | exact gr_none (gr_d _) gp | exact gr_none gr_d1 gp | exact gp))); (try have PU := hide (PU.out.keep0 (by first | exact gr_none (gr_d _) gp | exact gr_none gr_d1 gp | exact gp))); have GG : w2.grownBy wl none := gr_none (by first | exact gr_none GG (gr_d _) | exact gr_none GG gr_d1 | exact GG) gp; obtain ⟨q0, q1, _⟩ := BX.out wl GG; clear gp fp hh))
  all_goals
    have HG := hide (gr_none GW2.out (gr_none BG.out GG))
    clear GG q0 q1
    go_wp2_with fail
    refine (along_real _ _ 3 2 4 z1U z1D 3 wl PU.out PD.out pl1D tim1.1 plT1 (by decide) (by decide) (by decide) (HM.out.keep0 HG.out)).mono ?_
    intro e w5 hh
    obtain ⟨ro, rc, rfl, r1, r2⟩ := hh.get alo1
    have G5 := hide (gr_none HG.out r2)
    have PU5 := hide (PU.out.keep0 r2)
    have PD5 := hide (PD.out.keep0 r2)
    clear r1 r2 hh
    go_wp2_with fail
    refine (never_zero ro rc w5).mono ?_
    rintro e w6 ⟨rfl, g6⟩
    have G6 := hide (gr_none G5.out g6)
    have PU6 := hide (PU5.out.keep0 g6)
    have PD6 := hide (PD5.out.keep0 g6)
    clear g6
    go_wp2_with fail
    refine (pplus_at _ _ 3 2 z1U z1D 3 w6 PU6.out PD6.out (by decide) (by decide) pl1U.1 pl1D.1 (by decide) (fun i => by rw [sum1]; exact f1S i)).mono ?_
    intro e w7 hh
    obtain ⟨so, sc, rfl, t1, t2⟩ := (hh.congr sum1).get pl1S
    have T1 := hide t1
    have G7 := hide (gr_none G6.out t2)
    clear t1 t2 hh
    go_wp2_with fail
    refine (pTexts_at _ 3 z1S 3 w7 T1.out (by decide) (by decide) (HT.out.keep0 G7.out)).mono ?_
    rintro e w8 ⟨v8, rfl, x1, x2⟩
    rw [texts5] at x1
    have X1 := hide x1.1.row
    have G8 := hide (gr_none G7.out x2)
    obtain ⟨xo8, xc8, ex8⟩ := x1.1.shape
    subst ex8
    clear x1 x2
    go_wp2_with fail
    refine (count5_at _ w8 X1.out (HM.out.keep0 G8.out)).mono ?_
    rintro e w9 ⟨rfl, g9⟩
    have G9 := hide (gr_none G8.out g9)
    clear g9
    go_wp2
    go_ret2
    exact ⟨rfl, G9.out⟩

set_option maxHeartbeats 4000000 in
set_option maxRecDepth 10000 in
theorem positive2 (uo do_ : Option Addr) (uc dc : Nat) (w : World) (hu : RowG sv w (.slice uo 1 uc) lu2) (hd : RowG sv w (.slice do_ 1 dc) ld2) (hml : MLen w) (ht : Tab10 w) :
    Calls Tryz.prog 23 #[.agg #[.slice uo 1 uc, .slice do_ 1 dc]] w fun e w' => e = .returned (.tuple #[.bool false, .int .i64 0]) ∧ w.grownBy w' none := by
  have HU := hide hu
  have HD := hide hd
  have HM := hide hml
  have HT := hide ht
  clear hu hd hml ht
  obtain ⟨W, hW⟩ : ∃ W, W = w.alloc (Obj.cells #[.slice uo 1 uc, .slice do_ 1 dc] 46) := ⟨_, rfl⟩
  have GW : Hid (w.grownBy W none) := by rw [hW]; exact gr_alloc (gr_refl _ _) _
  obtain ⟨s0, s1, _⟩ := two_cells (w := W) (g := w.heap.size) (t := 46) (x := .slice uo 1 uc) (y := .slice do_ 1 dc) (by rw [hW]; exact heap_alloc_new _ _)
  go_enter Tryz.func23, Tryz.ntmps23
  go_upto_region 1 with fail
  rw [← hW]
  clear hW
  go_wp2_with fail
  refine (ofRatio2 uo do_ uc dc W (HU.out.keep GW.out) (HD.out.keep GW.out) (HM.out.keep0 GW.out)).mono ?_
  rintro e w1 ⟨uo1, uc1, do1, dc1, rfl, a1, a2, a3⟩
  have U1 := hide a1
  have D1 := hide a2
  have GW2 := hide (gr_none GW.out a3)
  clear a1 a2 a3 s0 s1
  go_upto_region 2 with fail
  obtain ⟨w2, hw2⟩ : ∃ w2, w2 = w1.alloc (Obj.cells #[.slice uo1 1 uc1, .slice do1 0 dc1] 115) := ⟨_, rfl⟩
  have BG : Hid (w1.grownBy w2 none) := by rw [hw2]; exact gr_alloc (gr_refl _ _) _
  have BX : Hid (∀ wx, w2.grownBy wx none → wx.cell? ⟨w1.heap.size, 0, none⟩ = some (.slice uo1 1 uc1) ∧ wx.cell? ⟨w1.heap.size, 1, none⟩ = some (.slice do1 0 dc1) ∧ ∀ i, wx.frozen? ⟨w1.heap.size, i, none⟩ = false) := by
    intro wx hg
    rw [hw2] at hg
    exact two_cells (by rw [hg.block w1.heap.size (by simp) (by simp)]; exact heap_alloc_new _ _)
  rw [← hw2]
  clear hw2
  go_wp2
  have GG : w2.grownBy w2 none := gr_refl _ _
  obtain ⟨b0, b1, _⟩ := BX.out w2 GG
  go_region_held3 (fun w' => w'.cell? ⟨w1.heap.size, 0, none⟩ = some (.slice uo1 1 uc1) ∧ w'.cell? ⟨w1.heap.size, 1, none⟩ = some (.slice do1 0 dc1)) (go_keep)
    (first
      | (go_at_call 66; refine (rUp_at uo1 do1 1 uc1 0 dc1 _).mono ?_; rintro e wl ⟨rfl, gu⟩; have FU := hide (U1.out.keep0 (gr_none BG.out (gr_none (by first | exact gr_none GG (gr_d _) | exact gr_none GG gr_d1 | exact GG) gu))); (try have FD := hide (FD.out.keep0 (by first | exact gr_none (gr_d _) gu | exact gr_none gr_d1 gu | exact gu))); (try have PD := hide (PD.out.keep0 (by first | exact gr_none (gr_d _) gu | exact gr_none gr_d1 gu | exact gu))); have GG : w2.grownBy wl none := gr_none (by first | exact gr_none GG (gr_d _) | exact gr_none GG gr_d1 | exact GG) gu; obtain ⟨q0, q1, _⟩ := BX.out wl GG; clear gu)
      | (go_at_call 68; refine (rDown_one uo1 do1 1 uc1 dc1 3 _ (by decide) (HM.out.keep0 (gr_none GW2.out (gr_none BG.out (by first | exact gr_none GG (gr_d _) | exact gr_none GG gr_d1 | exact GG))))).mono ?_; rintro e wl ⟨vd, rfl, fd, gd⟩; have FD := hide fd; (try have FU := hide (FU.out.keep0 (by first | exact gr_none (gr_d _) gd | exact gr_none gr_d1 gd | exact gd))); (try have PU := hide (PU.out.keep0 (by first | exact gr_none (gr_d _) gd | exact gr_none gr_d1 gd | exact gd))); have GG : w2.grownBy wl none := gr_none (by first | exact gr_none GG (gr_d _) | exact gr_none GG gr_d1 | exact GG) gd; obtain ⟨q0, q1, _⟩ := BX.out wl GG; clear gd)
      | (go_at_call_of 67 (Value.slice uo1 1 uc1); refine (plain_smp _ 1 z2U 3 _ (FU.out.keep0 (by first | exact gr_d _ | exact gr_d1 | exact gr_refl _ _)) smp2U (by decide) (by decide)).mono ?_; intro e wl hh; obtain ⟨pu, puc, rfl, fp, gp⟩ := hh.get pl2U; have PU := hide fp; (try have FD := hide (FD.out.keep0 (by first | exact gr_none (gr_d _) gp | exact gr_none gr_d1 gp | exact gp))); (try have PD := hide (PD.out.keep0 (by first | exact gr_none (gr_d _) gp | exact gr_none gr_d1 gp | exact gp))); have GG : w2.grownBy wl none := gr_none (by first | exact gr_none GG (gr_d _) | exact gr_none GG gr_d1 | exact GG) gp; obtain ⟨q0, q1, _⟩ := BX.out wl GG; clear gp fp hh)
      | (go_at_call_of 67 (Value.slice (some vd) 1 1); refine (plain_smp _ 1 z2D 3 _ (FD.out.keep0 (by first | exact gr_d _ | exact gr_d1 | exact gr_refl _ _)) smp2D (by decide) (by decide)).mono ?_; intro e wl hh; obtain ⟨pd, pdc, rfl, fp, gp⟩ := hh.get pl2D; have PD := hide fp; (try have FU := hide (FU.out.keep0 (by first | exact gr_none (gr_d _) gp | exact gr_none gr_d1 gp | exact gp))); (try have PU := hide (PU.out.keep0 (by first | exact gr_none (gr_d _) gp | exact gr_none gr_d1 gp | exact gp))); have GG : w2.grownBy wl none := gr_none (by first | exact gr_none GG (gr_d _) | exact gr_none GG gr_d1 | exact GG) gp; obtain ⟨q0, q1, _⟩ := BX.out wl GG; clear gp fp hh))
  all_goals
    have HG := hide (gr_none GW2.out (gr_none BG.out GG))
    clear GG q0 q1
    go_wp2_with fail
    refine (along_real _ _ 1 1 1 z2U z2D 3 wl PU.out PD.out pl2D tim2.1 plT2 (by decide) (by decide) (by decide) (HM.out.keep0 HG.out)).mono ?_
    intro e w5 hh
    rw [alo2] at hh
    obtain ⟨ro, rc, rfl, r1, r2⟩ := hh.get pl2U
    have R1 := hide r1
    have G5 := hide (gr_none HG.out r2)
    clear r1 r2 hh
    go_wp2_with fail
    refine (never_neg _ z2U 3 w5 R1.out pl2U (by decide +kernel)).mono ?_
    rintro e w6 ⟨rfl, g6⟩
    have G6 := hide (gr_none G5.out g6)
    clear g6
    go_wp2
    go_ret2
    exact ⟨rfl, G6.out⟩
end Go.Proofs.YtbihhkcgiepgaaeGreatDoor
