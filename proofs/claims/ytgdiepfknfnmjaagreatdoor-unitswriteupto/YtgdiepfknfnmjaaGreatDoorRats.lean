/- voltaicbig: Rat's: den, Mul, Quo. -/
import Derived.Test.YtgdiepfknfnmjaaGreatDoorMBe
namespace Go.Proofs.YtgdiepfknfnmjaaGreatDoor
open Go.RowKit
set_option linter.unusedVariables false

set_option maxHeartbeats 400000 in
theorem den_at (b : Nat) (x : Int) (y L : Nat) (w : World) (h : RatAt w b x y L) :
    Calls Tryz.prog 81 #[.pointer (some ⟨b, 0, none⟩)] w fun e w' => e = .returned (.pointer (some ⟨b, 2, none⟩)) ∧ w' = w := by
  obtain ⟨h1, h2, h3, h4⟩ := h
  obtain ⟨nb, vb, b1, b2, b3, b4⟩ := h2
  rw [Int.natAbs_natCast] at b2
  obtain ⟨bo, lb, cb, rfl, y1, y2, y3, y4, y5, y6⟩ := num_zero b2
  have d1 := b1.c1
  have hlb : ((lb : Int) == 0) = false := beq_eq_false_iff_ne.2 (by omega)
  clear b1 b2 b3 b4 y1 y5 y6 h1 h3 h4
  go_enter Tryz.func81, Tryz.ntmps81
  go_wp2
  go_ret
  exact ⟨rfl, rfl⟩

theorem RatAt.keep0 {w w' : World} {b L : Nat} {x : Int} {y : Nat} (h : RatAt w b x y L) (hg : w.grownBy w' none) : RatAt w' b x y L :=
  ⟨h.1.keep0 hg, h.2.1.keep0 hg, h.2.2⟩
theorem RatAt.lt {w : World} {b L : Nat} {x : Int} {y : Nat} (h : RatAt w b x y L) : b < w.heap.size := h.1.lt
theorem RatAt.mono {w : World} {b L L' : Nat} {x : Int} {y : Nat} (h : RatAt w b x y L) (hl : L ≤ L') : RatAt w b x y L' := ⟨h.1.mono hl, h.2.1.mono hl, h.2.2⟩

theorem newBox' (w : World) (n : Nat) (hn : n = w.heap.size) : Box (w.alloc (.cells #[.bool false, .slice none 0 0] 56)) n 0 false (.slice none 0 0) := by
  subst hn
  exact newBox w
theorem gr_drew {w w1 : World} {r : Option Nat} (h : w.grownBy w1 r) : w.grownBy w1.drew r := ⟨h.os, h.tape, h.output, h.size, h.block⟩

theorem pair_keep {W w1 W2 w2 : World} {pb qb L : Nat} {z : Int} (h : IntAt w1 pb 0 z L) (hn : NewIn W w1 pb 0) (hg : w1.grownBy W2 none) (hp : Put W2 w2 qb 0) (hne : pb ≠ qb) (hq : qb < W.heap.size ∨ w1.heap.size ≤ qb) : IntAt w2 pb 0 z L := by
  refine (h.keep0 hg).keep hp (.inl hne) ?_
  intro v hv e
  obtain ⟨neg, u, u1, u2, u3, u4⟩ := h
  have e1 : W2.cell? ⟨pb, 0 + 1, none⟩ = some u := (World.cell?_of_block (w := w1) (a := ⟨pb, 0 + 1, none⟩) (hg.block pb u1.lt (by simp))).trans u1.c1
  rw [hv] at e1
  have e2 := Option.some.inj e1
  subst e2
  have h1 := hn v u1.c1 qb e
  obtain ⟨xs, x1, x2, x3, x4⟩ := u2
  have h2 := x1.blk qb e
  omega

set_option maxHeartbeats 4000000 in
theorem ratMul_at (bz bx bY : Nat) (n1 n2 : Bool) (v1 v2 : Value) (x1 y1 : Int) (x2 y2 L M : Nat) (w : World) (hz1 : Box w bz 0 n1 v1) (hz2 : Box w bz 2 n2 v2) (hX : RatAt w bx x1 x2 L) (hY : RatAt w bY y1 y2 M) (hL : L + M ≤ 400000000) :
    Calls Tryz.prog 73 #[.pointer (some ⟨bz, 0, none⟩), .pointer (some ⟨bx, 0, none⟩), .pointer (some ⟨bY, 0, none⟩)] w fun e w' => e = .returned (.pointer (some ⟨bz, 0, none⟩)) ∧ RPut w w' bz ∧ RatAt w' bz (low1 (x1 * y1) (x2 * y2)) (low2 (x1 * y1) (x2 * y2)) (L + M + 2) := by
  have HX := hide hX
  have HY := hide hY
  have Z1 := hide hz1
  have Z2 := hide hz2
  have hlx := hX.lt
  have hly := hY.lt
  have hlz := hz1.lt
  clear hX hY hz1 hz2
  go_enter Tryz.func73, Tryz.ntmps73
  go_wp2
  go_region_with (first
    | (go_at_call_of 82 (Value.pointer (some ⟨bx, 0, none⟩)); go_must (refine (mul_at _ 0 bx 0 bY 0 false (.slice none 0 0) x1 y1 L M _ (by constructor <;> simp) (HX.out.1.keep0 (by repeat (first | assumption | exact gr_refl _ _ | refine gr_alloc ?_ _ | refine gr_drew ?_ | refine gr_drewN ?_ _))) (HY.out.1.keep0 (by repeat (first | assumption | exact gr_refl _ _ | refine gr_alloc ?_ _ | refine gr_drew ?_ | refine gr_drewN ?_ _))) (by omega) (by first | omega | (simp; omega)) (by first | omega | (simp; omega))).mono ?_; rintro e w1 ⟨rfl, a1, a2, a5⟩; have g1 := gr_of_put (w := w) (by repeat (first | assumption | exact gr_refl _ _ | refine gr_alloc ?_ _ | refine gr_drew ?_ | refine gr_drewN ?_ _)) a1 (by first | exact Nat.le_refl _ | (simp; done) | omega); have hs1 := g1.size; have hlt1 := a2.lt; have hk := fun (b' : Nat) (h : Box _ b' 0 false (.slice none 0 0)) (hne : b' ≠ _) => h.keep a1 (.inl hne)))
    | (go_at_call_of 81 (Value.pointer (some ⟨bx, 0, none⟩)); go_must (refine (den_at bx x1 x2 L _ (HX.out.keep0 (by repeat (first | assumption | exact gr_refl _ _ | refine gr_alloc ?_ _ | refine gr_drew ?_ | refine gr_drewN ?_ _)))).mono ?_; rintro e wd ⟨rfl, hwd⟩; obtain rfl := hwd.symm))
    | (go_at_call_of 81 (Value.pointer (some ⟨bY, 0, none⟩)); go_must (refine (den_at bY y1 y2 M _ (HY.out.keep0 (by repeat (first | assumption | exact gr_refl _ _ | refine gr_alloc ?_ _ | refine gr_drew ?_ | refine gr_drewN ?_ _)))).mono ?_; rintro e wd ⟨rfl, hwd⟩; obtain rfl := hwd.symm))
    | (go_at_call_of 82 (Value.pointer (some ⟨bx, 2, none⟩)); go_must (refine (mul_at _ 0 bx 2 bY 2 false (.slice none 0 0) (x2 : Int) (y2 : Int) L M _ (by first | (constructor <;> simp; done) | exact hk _ (by constructor <;> simp) (by simp) | exact Box.keep0 (hk _ (by constructor <;> simp) (by simp)) (by repeat (first | assumption | exact gr_refl _ _ | refine gr_alloc ?_ _ | refine gr_drew ?_ | refine gr_drewN ?_ _))) (HX.out.2.1.keep0 (by repeat (first | assumption | exact gr_refl _ _ | refine gr_alloc ?_ _ | refine gr_drew ?_ | refine gr_drewN ?_ _))) (HY.out.2.1.keep0 (by repeat (first | assumption | exact gr_refl _ _ | refine gr_alloc ?_ _ | refine gr_drew ?_ | refine gr_drewN ?_ _))) (by omega) (by first | omega | (simp; omega)) (by first | omega | (simp; omega))).mono ?_; rintro e w2 ⟨rfl, b1, b2, b5⟩; have p2 := pair_keep a2 a5 (by repeat (first | assumption | exact gr_refl _ _ | refine gr_alloc ?_ _ | refine gr_drew ?_ | refine gr_drewN ?_ _)) b1 (by first | omega | (simp; done) | (simp; omega)) (by first | exact .inr (Nat.le_refl _) | (refine .inl ?_; simp <;> omega)); have g2 := gr_of_put (w := w) (by repeat (first | assumption | exact gr_refl _ _ | refine gr_alloc ?_ _ | refine gr_drew ?_ | refine gr_drewN ?_ _)) b1 (by first | exact Nat.le_refl _ | omega | (simp; done))))
    | (go_at_call 50; go_must (refine (setFrac_pos bz _ 0 _ 0 n1 n2 v1 v2 (x1 * y1) (x2 * y2) (L + M) _ (Z1.out.keep0 g2) (Z2.out.keep0 g2) p2 (by rw [Int.natCast_mul]; exact b2) (Nat.mul_pos HX.out.2.2.1 HY.out.2.2.1) hL).mono ?_; rintro e w3 ⟨rfl, r1, r2⟩)))
  all_goals go_wp2
  all_goals go_ret
  all_goals exact ⟨rfl, (RPut.of_gr g2).trans r1, r2⟩
end Go.Proofs.YtgdiepfknfnmjaaGreatDoor
