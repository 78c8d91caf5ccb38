/- The reference: Quo. -/
import Derived.Test.YtgdiepfknfnmjaaGreatDoorMRa
namespace Go.Proofs.YtgdiepfknfnmjaaGreatDoor
open Go.RowKit
set_option linter.unusedVariables false
set_option linter.unusedSimpArgs false

set_option maxHeartbeats 4000000 in
theorem ratQuo_at (bz bx bY : Nat) (n1 n2 : Bool) (v1 v2 : Value) (x1 : Int) (x2 yn y2 L M : Nat) (w : World) (hz1 : Box w bz 0 n1 v1) (hz2 : Box w bz 2 n2 v2) (hX : RatAt w bx x1 x2 L) (hY : RatAt w bY (yn : Int) y2 M) (hyn : 0 < yn) (hL : L + M ≤ 400000000) :
    Calls Tryz.prog 119 #[.pointer (some ⟨bz, 0, none⟩), .pointer (some ⟨bx, 0, none⟩), .pointer (some ⟨bY, 0, none⟩)] w fun e w' => e = .returned (.pointer (some ⟨bz, 0, none⟩)) ∧ RPut w w' bz ∧ RatAt w' bz (low1 (x1 * (y2 : Int)) (x2 * yn)) (low2 (x1 * (y2 : Int)) (x2 * yn)) (L + M + 2) := by
  have HX := hide hX
  have HY := hide hY
  have Z1 := hide hz1
  have Z2 := hide hz2
  have hlx := hX.lt
  have hly := hY.lt
  have hlz := hz1.lt
  clear hX hY hz1 hz2
  go_enter Tryz.func119, Tryz.ntmps119
  go_wp2
  go_region_with (first
    | (go_at_call_of 82 (Value.pointer (some ⟨bx, 0, none⟩)); go_must (refine (mul_at _ 0 bx 0 bY 2 false (.slice none 0 0) x1 (y2 : Int) L M _ (by constructor <;> simp) (HX.out.1.keep0 (by repeat (first | assumption | exact gr_refl _ _ | refine gr_alloc ?_ _ | refine gr_drew ?_ | refine gr_drewN ?_ _))) (HY.out.2.1.keep0 (by repeat (first | assumption | exact gr_refl _ _ | refine gr_alloc ?_ _ | refine gr_drew ?_ | refine gr_drewN ?_ _))) (by omega) (by first | omega | (simp; omega)) (by first | omega | (simp; omega))).mono ?_; rintro e w1 ⟨rfl, a1, a2, a5⟩; have g1 := gr_of_put (w := w) (by repeat (first | assumption | exact gr_refl _ _ | refine gr_alloc ?_ _ | refine gr_drew ?_ | refine gr_drewN ?_ _)) a1 (by first | exact Nat.le_refl _ | (simp; done) | omega); have hs1 := g1.size; have hlt1 := a2.lt; have hk := fun (b' : Nat) (h : Box _ b' 0 false (.slice none 0 0)) (hne : b' ≠ _) => h.keep a1 (.inl hne)))
    | (go_at_call_of 81 (Value.pointer (some ⟨bx, 0, none⟩)); go_must (refine (den_at bx x1 x2 L _ (HX.out.keep0 (by repeat (first | assumption | exact gr_refl _ _ | refine gr_alloc ?_ _ | refine gr_drew ?_ | refine gr_drewN ?_ _)))).mono ?_; rintro e wd ⟨rfl, hwd⟩; obtain rfl := hwd.symm))
    | (go_at_call_of 81 (Value.pointer (some ⟨bY, 0, none⟩)); go_must (refine (den_at bY (yn : Int) y2 M _ (HY.out.keep0 (by repeat (first | assumption | exact gr_refl _ _ | refine gr_alloc ?_ _ | refine gr_drew ?_ | refine gr_drewN ?_ _)))).mono ?_; rintro e wd ⟨rfl, hwd⟩; obtain rfl := hwd.symm))
    | (go_at_call_of 82 (Value.pointer (some ⟨bx, 2, none⟩)); go_must (refine (mul_at _ 0 bx 2 bY 0 false (.slice none 0 0) (x2 : Int) (yn : Int) L M _ (by first | (constructor <;> simp; done) | exact hk _ (by constructor <;> simp) (by simp) | exact Box.keep0 (hk _ (by constructor <;> simp) (by simp)) (by repeat (first | assumption | exact gr_refl _ _ | refine gr_alloc ?_ _ | refine gr_drew ?_ | refine gr_drewN ?_ _))) (HX.out.2.1.keep0 (by repeat (first | assumption | exact gr_refl _ _ | refine gr_alloc ?_ _ | refine gr_drew ?_ | refine gr_drewN ?_ _))) (HY.out.1.keep0 (by repeat (first | assumption | exact gr_refl _ _ | refine gr_alloc ?_ _ | refine gr_drew ?_ | refine gr_drewN ?_ _))) (by omega) (by first | omega | (simp; omega)) (by first | omega | (simp; omega))).mono ?_; rintro e w2 ⟨rfl, b1, b2, b5⟩; have p2 := pair_keep a2 a5 (by repeat (first | assumption | exact gr_refl _ _ | refine gr_alloc ?_ _ | refine gr_drew ?_ | refine gr_drewN ?_ _)) b1 (by first | omega | (simp; done) | (simp; omega)) (by first | exact .inr (Nat.le_refl _) | (refine .inl ?_; simp <;> omega)); have g2 := gr_of_put (w := w) (by repeat (first | assumption | exact gr_refl _ _ | refine gr_alloc ?_ _ | refine gr_drew ?_ | refine gr_drewN ?_ _)) b1 (by first | exact Nat.le_refl _ | omega | (simp; done))))
    | (go_at_call 50; go_must (refine (setFrac_pos bz _ 0 _ 0 n1 n2 v1 v2 (x1 * (y2 : Int)) (x2 * yn) (L + M) _ (Z1.out.keep0 g2) (Z2.out.keep0 g2) p2 (by rw [Int.natCast_mul]; exact b2) (Nat.mul_pos HX.out.2.2.1 hyn) hL).mono ?_; rintro e w3 ⟨rfl, r1, r2⟩)))
  all_goals go_wp2
  all_goals go_ret
  all_goals exact ⟨rfl, (RPut.of_gr g2).trans r1, r2⟩

theorem div_mk (p : Rat) (q : Rat) (n : Nat) (hq : q.num = (n : Int)) (hn : 0 < n) : mkRat (p.num * (q.den : Int)) (p.den * n) = p / q := by
  have h := q_div p q
  have h1 : rN q = n := by unfold rN; rw [hq]; simp
  have h2 : rB q = false := by unfold rB; rw [hq]; exact decide_eq_false (by omega)
  rw [h1, h2] at h
  rw [← h, Nat.mul_comm n p.den]
  congr 1
  rw [sgq_mul_nat]
  congr 1
  rw [Bool.bne_false]
  exact (rat_sgn p).symm

set_option maxHeartbeats 2000000 in
theorem rQuo_at (bx bY : Nat) (p q : Rat) (n L M : Nat) (w : World) (hX : RQ w bx p L) (hY : RQ w bY q M) (hq : q.num = (n : Int)) (hn : 0 < n) (hL : L + M ≤ 400000000) :
    Calls Tryz.prog 75 #[.pointer (some ⟨bx, 0, none⟩), .pointer (some ⟨bY, 0, none⟩)] w fun e w' => RQE w (p / q) (L + M + 2) e w' := by
  have HX := hide hX
  have HY := hide hY
  have hE := div_mk p q n hq hn
  have HE := hide hE
  have HQ := hide hq
  clear hX hY hE hq
  go_enter Tryz.func75, Tryz.ntmps75
  go_wp2_with fail
  have g1 := gr_alloc (gr_refl w none) (.cells #[.bool false, .slice none 0 0, .bool false, .slice none 0 0] 60)
  have hy2 := HY.out.keep0 g1
  unfold RQ at hy2
  rw [HQ.out] at hy2
  refine (ratQuo_at w.heap.size bx bY false false (.slice none 0 0) (.slice none 0 0) _ _ n _ L M _ (newRatB w).1 (newRatB w).2 (HX.out.keep0 g1) hy2 hn hL).mono ?_
  rintro e w1 ⟨rfl, a1, a2⟩
  have A1 := hide a1
  have A2 := hide a2
  clear a1 a2 g1 hy2
  go_wp2
  go_ret
  exact ⟨_, rfl, RatAt.q (Nat.mul_pos p.den_pos hn) HE.out A2.out, gr_rput (gr_alloc (gr_refl _ _) _) A1.out (Nat.le_refl _), Nat.le_refl _⟩

end Go.Proofs.YtgdiepfknfnmjaaGreatDoor
