/- The reference: mul, of the fraction that is nothing. -/
import Derived.Test.YtgdiepfknfnmjaaGreatDoorMW2
namespace Go.Proofs.YtgdiepfknfnmjaaGreatDoor
open Go.RowKit
set_option linter.unusedVariables false
set_option linter.unusedSimpArgs false

theorem alloc_size (w : World) (o : Obj) : (w.alloc o).heap.size = w.heap.size + 1 := by simp
theorem drew_size (w : World) : w.drew.heap.size = w.heap.size := rfl
theorem drewN_size (w : World) (n : Nat) : (w.drewN n).heap.size = w.heap.size := rfl

set_option maxHeartbeats 8000000 in
set_option maxRecDepth 20000 in
theorem ratMul_nil (bz bx bY : Nat) (n1 n2 : Bool) (v1 v2 : Value) (y1 : Int) (y2 L M : Nat) (w : World) (hz1 : Box w bz 0 n1 v1) (hz2 : Box w bz 2 n2 v2) (hX : RNil w bx L) (hY : RatAt w bY y1 y2 M) (hL2 : 2 ≤ L) (hL : L + M ≤ 400000000) :
    Calls Tryz.prog 73 #[.pointer (some ⟨bz, 0, none⟩), .pointer (some ⟨bx, 0, none⟩), .pointer (some ⟨bY, 0, none⟩)] w fun e w' => e = .returned (.pointer (some ⟨bz, 0, none⟩)) ∧ RPut w w' bz ∧ RatAt w' bz (low1 (0 * y1) (1 * y2)) (low2 (0 * y1) (1 * y2)) (L + M + 2) := by
  have HX := hide hX
  have HY := hide hY
  have Z1 := hide hz1
  have Z2 := hide hz2
  have hlx := hX.1.lt
  have hly := hY.lt
  have hlz := hz1.lt
  clear hX hY hz1 hz2
  go_enter Tryz.func73, Tryz.ntmps73
  go_wp2
  go_region_with (first
    | (go_at_call_of 82 (Value.pointer (some ⟨bx, 0, none⟩)); go_must (refine (mul_at _ 0 bx 0 bY 0 false (.slice none 0 0) 0 y1 L M _ (by constructor <;> simp) (HX.out.1.keep0 (by repeat (first | assumption | exact gr_refl _ _ | refine gr_alloc ?_ _ | refine gr_drew ?_ | refine gr_drewN ?_ _))) (HY.out.1.keep0 (by repeat (first | assumption | exact gr_refl _ _ | refine gr_alloc ?_ _ | refine gr_drew ?_ | refine gr_drewN ?_ _))) (by omega) (by first | omega | (simp; omega)) (by first | omega | (simp; omega))).mono ?_; rintro e w1 ⟨rfl, a1, a2, a5⟩; (try simp only [alloc_size, drew_size, drewN_size] at a2); have g1 := gr_of_put (w := w) (by repeat (first | assumption | exact gr_refl _ _ | refine gr_alloc ?_ _ | refine gr_drew ?_ | refine gr_drewN ?_ _)) a1 (by first | exact Nat.le_refl _ | (simp; done) | omega); have hs1 := g1.size; have hs2 := a1.gr.size; (try simp only [alloc_size, drew_size, drewN_size] at hs2); have hlt1 := a2.lt; have hk := fun (b' : Nat) (h : Box _ b' 0 false (.slice none 0 0)) (hne : b' ≠ _) => h.keep a1 (.inl hne)))
    | (go_at_call_of 81 (Value.pointer (some ⟨bx, 0, none⟩)); go_must (refine (den_nil bx L _ (HX.out.keep0 (by repeat (first | assumption | exact gr_refl _ _ | refine gr_alloc ?_ _ | refine gr_drew ?_ | refine gr_drewN ?_ _)))).mono ?_; rintro e wd ⟨rfl, gd, i1, i2⟩; (try simp only [alloc_size, drew_size, drewN_size] at i1); have gd1 : w1.grownBy wd none := gr_none (by repeat (first | assumption | exact gr_refl _ _ | refine gr_alloc ?_ _ | refine gr_drew ?_ | refine gr_drewN ?_ _)) gd; have gd2 : w.grownBy wd none := gr_none (by repeat (first | assumption | exact gr_refl _ _ | refine gr_alloc ?_ _ | refine gr_drew ?_ | refine gr_drewN ?_ _)) gd; have hltd := i1.lt))
    | (go_at_call_of 81 (Value.pointer (some ⟨bY, 0, none⟩)); go_must (refine (den_at bY y1 y2 M _ (HY.out.keep0 (by repeat (first | assumption | exact gr_refl _ _ | refine gr_alloc ?_ _ | refine gr_drew ?_ | refine gr_drewN ?_ _)))).mono ?_; rintro e we ⟨rfl, hwe⟩; obtain rfl := hwe.symm))
    | (go_at_call_of 82 (Value.pointer (some ⟨bY, 2, none⟩)); go_must (refine (mul_at _ 0 _ 0 bY 2 false (.slice none 0 0) 1 (y2 : Int) 2 M _ (by first | (constructor <;> simp; done) | exact (newBox w1).keep0 gd | exact ((newBox w1).keep0 (gr_drewN (gr_refl _ _) _)).keep0 gd | exact (((newBox w1).keep0 gd)).keep0 (gr_drewN (gr_refl _ _) _) | exact ((newBox w1).keep0 gd).keep0 (gr_drew (gr_refl _ _)) | exact (hk _ (by constructor <;> simp) (by simp)).keep0 gd1 | exact Box.keep0 (hk _ (by constructor <;> simp) (by simp)) (by repeat (first | assumption | exact gr_refl _ _ | refine gr_alloc ?_ _ | refine gr_drew ?_ | refine gr_drewN ?_ _))) (i1.keep0 (by repeat (first | assumption | exact gr_refl _ _ | refine gr_alloc ?_ _ | refine gr_drew ?_ | refine gr_drewN ?_ _))) (HY.out.2.1.keep0 (by repeat (first | assumption | exact gr_refl _ _ | refine gr_alloc ?_ _ | refine gr_drew ?_ | refine gr_drewN ?_ _))) (by omega) (by first | omega | (simp; omega)) (by first | omega | (simp; omega))).mono ?_; rintro e w2 ⟨rfl, b1, b2, b5⟩; have p2 := pair_keep a2 a5 (by repeat (first | assumption | exact gr_refl _ _ | refine gr_alloc ?_ _ | refine gr_drew ?_ | refine gr_drewN ?_ _)) b1 (by first | omega | (simp; done) | (simp; omega)) (by first | exact .inr (Nat.le_refl _) | (refine .inl ?_; simp <;> omega) | (refine .inr ?_; omega)); have g2 := gr_of_put (w := w) (by repeat (first | assumption | exact gr_refl _ _ | refine gr_alloc ?_ _ | refine gr_drew ?_ | refine gr_drewN ?_ _)) b1 (by first | exact Nat.le_refl _ | omega | (simp; done) | (simp; omega))))
    | (go_at_call 50; go_must (refine (setFrac_pos bz _ 0 _ 0 n1 n2 v1 v2 (0 * y1) (1 * y2) (L + M) _ (Z1.out.keep0 g2) (Z2.out.keep0 g2) p2 (by rw [Int.natCast_mul]; exact b2.mono (by omega)) (Nat.mul_pos (by decide) HY.out.2.2.1) hL).mono ?_; rintro e w3 ⟨rfl, r1, r2⟩)))
  all_goals go_wp2
  all_goals go_ret
  all_goals exact ⟨rfl, (RPut.of_gr g2).trans r1, r2⟩

set_option maxHeartbeats 2000000 in
theorem rMul_nil (bx bY : Nat) (q : Rat) (L M : Nat) (w : World) (hX : RNil w bx L) (hY : RQ w bY q M) (hL2 : 2 ≤ L) (hL : L + M ≤ 400000000) :
    Calls Tryz.prog 25 #[.pointer (some ⟨bx, 0, none⟩), .pointer (some ⟨bY, 0, none⟩)] w fun e w' => RQE w 0 (L + M + 2) e w' := by
  have HX := hide hX
  have HY := hide hY
  clear hX hY
  go_enter Tryz.func25, Tryz.ntmps25
  go_wp2_with fail
  have g1 := gr_alloc (gr_refl w none) (.cells #[.bool false, .slice none 0 0, .bool false, .slice none 0 0] 60)
  refine (ratMul_nil w.heap.size bx bY false false (.slice none 0 0) (.slice none 0 0) _ _ L M _ (newRatB w).1 (newRatB w).2 (HX.out.keep0 g1) (HY.out.keep0 g1) hL2 hL).mono ?_
  rintro e w1 ⟨rfl, a1, a2⟩
  have A1 := hide a1
  have A2 := hide a2
  clear a1 a2 g1
  go_wp2
  go_ret
  have hz : mkRat (0 * q.num) (1 * q.den) = 0 := by rw [Int.zero_mul, Rat.zero_mkRat]
  exact ⟨_, rfl, RatAt.q (Nat.mul_pos (by decide) q.den_pos) hz A2.out, gr_rput (gr_alloc (gr_refl _ _) _) A1.out (Nat.le_refl _), Nat.le_refl _⟩
end Go.Proofs.YtgdiepfknfnmjaaGreatDoor
