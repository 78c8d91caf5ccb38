/- voltaicbig: Rat's: Cmp, of what isn't below 0. -/
import Derived.Test.YtgdiepfknfnmjaaGreatDoorMRb
namespace Go.Proofs.YtgdiepfknfnmjaaGreatDoor
open Go.RowKit
set_option linter.unusedVariables false
set_option linter.unusedSimpArgs false

theorem ord_scale (a b d : Nat) (hd : 0 < d) : ord (a * d) (b * d) = ord a b := by
  unfold ord
  have h1 : (a * d < b * d) = (a < b) := propext (Nat.mul_lt_mul_right hd)
  have h2 : (a * d = b * d) = (a = b) := propext ⟨fun h => Nat.eq_of_mul_eq_mul_right hd h, fun h => by rw [h]⟩
  simp only [h1, h2]

set_option maxHeartbeats 8000000 in
theorem ratCmp_at (bx bY : Nat) (p q : Rat) (a b : Nat) (L M : Nat) (w : World) (hX : RQ w bx p L) (hY : RQ w bY q M) (hp : p.num = (a : Int)) (hq : q.num = (b : Int)) (hL : L + M ≤ 400000000) :
    Calls Tryz.prog 36 #[.pointer (some ⟨bx, 0, none⟩), .pointer (some ⟨bY, 0, none⟩)] w fun e w' => e = .returned (.int .i64 (ord (a * q.den) (b * p.den))) ∧ w.grownBy w' none := by
  have hX' : RatAt w bx (a : Int) p.den L := by rw [← hp]; exact hX
  have hY' : RatAt w bY (b : Int) q.den M := by rw [← hq]; exact hY
  have HX := hide hX'
  have HY := hide hY'
  have hlx := hX'.lt
  have hly := hY'.lt
  have hpd := p.den_pos
  have hqd := q.den_pos
  obtain ⟨c, hc⟩ : ∃ c, c = p.den := ⟨_, rfl⟩
  obtain ⟨d, hd⟩ : ∃ d, d = q.den := ⟨_, rfl⟩
  rw [← hc] at HX hpd ⊢
  rw [← hd] at HY hqd ⊢
  clear hX hY hX' hY' hp hq hc hd
  go_enter Tryz.func36, Tryz.ntmps36
  go_wp2_with fail
  refine (den_at bx a c L _ HX.out).mono ?_
  rintro e w1 ⟨rfl, hw1⟩
  rw [hw1]
  clear hw1
  go_wp2_with fail
  refine (den_at bY b d M _ HY.out).mono ?_
  rintro e w1 ⟨rfl, hw1⟩
  rw [hw1]
  clear hw1
  go_wp2_with fail
  refine (intCmp_at bx 2 bY 2 c d L M _ HX.out.2.1 HY.out.2.1).mono ?_
  rintro e w1 ⟨rfl, g1⟩
  have G1 := hide g1
  clear g1
  by_cases hcd : c = d
  · subst hcd
    have e1 : (ord c c == 0) = true := by rw [ord_eq]; rfl
    have X1 := hide (HX.out.keep0 G1.out)
    have Y1 := hide (HY.out.keep0 G1.out)
    go_wp2
    go_region_with (first | (go_at_call 43; refine (intCmp_at bx 0 bY 0 a b L M _ (X1.out.1.keep0 (by first | exact gr_dn _ | exact gr_drew1 | exact gr_refl _ _)) (Y1.out.1.keep0 (by first | exact gr_dn _ | exact gr_drew1 | exact gr_refl _ _))).mono ?_; rintro e w2 ⟨rfl, g2⟩))
    all_goals have G2 := hide (gr_none (by first | exact gr_none G1.out (gr_dn _) | exact gr_none G1.out gr_drew1 | exact G1.out) g2)
    all_goals clear g2
    all_goals go_wp2
    all_goals go_ret
    all_goals exact ⟨by rw [ord_scale a b c hpd]; rfl, G2.out⟩
  · have e1 : (ord c d == 0) = false := by
      apply beq_eq_false_iff_ne.2
      rcases Nat.lt_or_gt_of_ne hcd with h | h
      · rw [ord_lt h]; decide
      · rw [ord_gt h]; decide
    have X1 := hide (HX.out.keep0 G1.out)
    have Y1 := hide (HY.out.keep0 G1.out)
    have hlx1 := X1.out.lt
    have hly1 := Y1.out.lt
    clear HX HY
    go_wp2
    go_region_with (first
      | (go_at_call_of 82 (Value.pointer (some ⟨bx, 0, none⟩)); go_must (refine (mul_at _ 0 bx 0 bY 2 false (.slice none 0 0) (a : Int) (d : Int) L M _ (by constructor <;> simp) (X1.out.1.keep0 (by repeat (first | assumption | exact gr_refl _ _ | refine gr_alloc ?_ _ | refine gr_drew ?_ | refine gr_drewN ?_ _))) (Y1.out.2.1.keep0 (by repeat (first | assumption | exact gr_refl _ _ | refine gr_alloc ?_ _ | refine gr_drew ?_ | refine gr_drewN ?_ _))) (by omega) (by first | omega | (simp; omega)) (by first | omega | (simp; omega))).mono ?_; rintro e w2 ⟨rfl, a1, a2, a5⟩; have g1 := gr_of_put (w := w1) (by repeat (first | assumption | exact gr_refl _ _ | refine gr_alloc ?_ _ | refine gr_drew ?_ | refine gr_drewN ?_ _)) a1 (by first | exact Nat.le_refl _ | (simp; done) | omega); have hs1 := g1.size; have hlt1 := a2.lt; have hk := fun (b' : Nat) (h : Box _ b' 0 false (.slice none 0 0)) (hne : b' ≠ _) => h.keep a1 (.inl hne)))
      | (go_at_call_of 81 (Value.pointer (some ⟨bx, 0, none⟩)); go_must (refine (den_at bx a c L _ (X1.out.keep0 (by repeat (first | assumption | exact gr_refl _ _ | refine gr_alloc ?_ _ | refine gr_drew ?_ | refine gr_drewN ?_ _)))).mono ?_; rintro e wd ⟨rfl, hwd⟩; obtain rfl := hwd.symm))
      | (go_at_call_of 81 (Value.pointer (some ⟨bY, 0, none⟩)); go_must (refine (den_at bY b d M _ (Y1.out.keep0 (by repeat (first | assumption | exact gr_refl _ _ | refine gr_alloc ?_ _ | refine gr_drew ?_ | refine gr_drewN ?_ _)))).mono ?_; rintro e wd ⟨rfl, hwd⟩; obtain rfl := hwd.symm))
      | (go_at_call_of 82 (Value.pointer (some ⟨bY, 0, none⟩)); go_must (refine (mul_at _ 0 bY 0 bx 2 false (.slice none 0 0) (b : Int) (c : Int) M L _ (by first | (constructor <;> simp; done) | exact hk _ (by constructor <;> simp) (by simp) | exact Box.keep0 (hk _ (by constructor <;> simp) (by simp)) (by repeat (first | assumption | exact gr_refl _ _ | refine gr_alloc ?_ _ | refine gr_drew ?_ | refine gr_drewN ?_ _))) (Y1.out.1.keep0 (by repeat (first | assumption | exact gr_refl _ _ | refine gr_alloc ?_ _ | refine gr_drew ?_ | refine gr_drewN ?_ _))) (X1.out.2.1.keep0 (by repeat (first | assumption | exact gr_refl _ _ | refine gr_alloc ?_ _ | refine gr_drew ?_ | refine gr_drewN ?_ _))) (by omega) (by first | omega | (simp; omega)) (by first | omega | (simp; omega))).mono ?_; rintro e w3 ⟨rfl, b1, b2, b5⟩; have p2 := pair_keep a2 a5 (by repeat (first | assumption | exact gr_refl _ _ | refine gr_alloc ?_ _ | refine gr_drew ?_ | refine gr_drewN ?_ _)) b1 (by first | omega | (simp; done) | (simp; omega)) (by first | exact .inr (Nat.le_refl _) | (refine .inl ?_; simp <;> omega)); have g2 := gr_of_put (w := w1) (by repeat (first | assumption | exact gr_refl _ _ | refine gr_alloc ?_ _ | refine gr_drew ?_ | refine gr_drewN ?_ _)) b1 (by first | exact Nat.le_refl _ | omega | (simp; done))))
      | (go_at_call 43; go_must (refine (intCmp_at _ 0 _ 0 (a * d) (b * c) (L + M) (M + L) _ (by rw [Int.natCast_mul]; exact p2) (by rw [Int.natCast_mul]; exact b2)).mono ?_; rintro e w4 ⟨rfl, r1⟩)))
    all_goals go_wp2
    all_goals go_ret
    all_goals exact ⟨rfl, gr_none G1.out (gr_none g2 r1)⟩
end Go.Proofs.YtgdiepfknfnmjaaGreatDoor
