/- The reference: sub, Sub, add, Add: of numbers or of the fraction that is nothing (RX). -/
import Derived.Test.YtklkpkkjakllfaaGreatDoorXRSub
import Derived.Test.YtklkpkkjakllfaaGreatDoorXBf
import Derived.Test.YtklkpkkjakllfaaGreatDoorXBe
set_option linter.unusedVariables false
set_option linter.unusedSimpArgs false
set_option maxHeartbeats 2000000
namespace Go.Proofs.YtklkpkkjakllfaaGreatDoor
open Go.RowKit
def RX (w : World) (b : Nat) (q : Rat) (L : Nat) : Prop := IntAt w b 0 q.num L ∧ DenC w b q.den L
theorem RQ.x {w : World} {b L : Nat} {q : Rat} (h : RQ w b q L) : RX w b q L := ⟨h.1, RatAt.denC h⟩
theorem RNil.x {w : World} {b L : Nat} (h : RNil w b L) (hL : 2 ≤ L) : RX w b 0 L := by
  refine ⟨h.1, ?_⟩
  have : DenC w b 1 2 := by
    intro w1 F I m
    refine (den_nil b L w1 (h.keep0 m.gr)).mono ?_
    rintro e w' ⟨rfl, g, i1, i2⟩
    exact ⟨w1.heap.size, 0, rfl, g, m.new g i1 (Nat.le_refl _) i2⟩
  exact this.mono hL
theorem sub_mk (p q : Rat) : mkRat (p.num * (q.den : Int) - q.num * (p.den : Int)) (p.den * q.den) = p - q := (Rat.sub_def' p q).symm
theorem rSub_at (bx bY : Nat) (p q : Rat) (L M : Nat) (w : World) (hX : RX w bx p L) (hY : RX w bY q M) (hL : L + M ≤ 3900000000000) :
    Calls Tryz.prog 30 #[.pointer (some ⟨bx, 0, none⟩), .pointer (some ⟨bY, 0, none⟩)] w fun e w' => RQE w (p - q) (L + M + 3) e w' := by
  have HX := hide hX
  have HY := hide hY
  clear hX hY
  go_enter Tryz.func30, Tryz.ntmps30
  go_wp2_with fail
  have g1 := gr_alloc (gr_refl w none) (.cells #[.bool false, .slice none 0 0, .bool false, .slice none 0 0] 54)
  refine (ratSub_at w.heap.size bx bY false false (.slice none 0 0) (.slice none 0 0) _ _ _ _ L M _ (newRatB w).1 (newRatB w).2 (HX.out.1.keep0 g1) (HY.out.1.keep0 g1) (HX.out.2.keep0 g1) (HY.out.2.keep0 g1) p.den_pos q.den_pos hL).mono ?_
  rintro e w1 ⟨rfl, a1, a2⟩
  have A1 := hide a1
  have A2 := hide a2
  clear a1 a2 g1
  go_wp2
  go_ret
  exact ⟨_, rfl, RatAt.q (Nat.mul_pos p.den_pos q.den_pos) (sub_mk p q) A2.out, gr_rput (gr_alloc (gr_refl _ _) _) A1.out (Nat.le_refl _), Nat.le_refl _⟩
theorem rSubS_at (bx bY : Nat) (p q : Rat) (L M : Nat) (w : World) (hX : RX w bx p L) (hY : RX w bY q M) (hL : L + M ≤ 3900000000000) :
    Calls Tryz.prog 9 #[.pointer (some ⟨bx, 0, none⟩), .pointer (some ⟨bY, 0, none⟩)] w fun e w' => RQE w (p - q) (L + M + 3) e w' := by
  have HX := hide hX
  have HY := hide hY
  clear hX hY
  go_enter Tryz.func9, Tryz.ntmps9
  go_wp2_with fail
  refine (rSub_at bx bY p q L M _ HX.out HY.out hL).mono ?_
  rintro e w1 ⟨b, rfl, h⟩
  have H := hide h
  clear h
  go_wp2
  go_ret
  exact ⟨b, rfl, H.out⟩
theorem add_mk (p q : Rat) : mkRat (p.num * (q.den : Int) + q.num * (p.den : Int)) (p.den * q.den) = p + q := (Rat.add_def' p q).symm
theorem rAdd_at (bx bY : Nat) (p q : Rat) (L M : Nat) (w : World) (hX : RX w bx p L) (hY : RX w bY q M) (hL : L + M ≤ 3900000000000) :
    Calls Tryz.prog 26 #[.pointer (some ⟨bx, 0, none⟩), .pointer (some ⟨bY, 0, none⟩)] w fun e w' => RQE w (p + q) (L + M + 3) e w' := by
  have HX := hide hX
  have HY := hide hY
  clear hX hY
  go_enter Tryz.func26, Tryz.ntmps26
  go_wp2_with fail
  have g1 := gr_alloc (gr_refl w none) (.cells #[.bool false, .slice none 0 0, .bool false, .slice none 0 0] 54)
  refine (ratAdd_at w.heap.size bx bY false false (.slice none 0 0) (.slice none 0 0) _ _ _ _ L M _ (newRatB w).1 (newRatB w).2 (HX.out.1.keep0 g1) (HY.out.1.keep0 g1) (HX.out.2.keep0 g1) (HY.out.2.keep0 g1) p.den_pos q.den_pos hL).mono ?_
  rintro e w1 ⟨rfl, a1, a2⟩
  have A1 := hide a1
  have A2 := hide a2
  clear a1 a2 g1
  go_wp2
  go_ret
  exact ⟨_, rfl, RatAt.q (Nat.mul_pos p.den_pos q.den_pos) (add_mk p q) A2.out, gr_rput (gr_alloc (gr_refl _ _) _) A1.out (Nat.le_refl _), Nat.le_refl _⟩
theorem rAddS_at (bx bY : Nat) (p q : Rat) (L M : Nat) (w : World) (hX : RX w bx p L) (hY : RX w bY q M) (hL : L + M ≤ 3900000000000) :
    Calls Tryz.prog 11 #[.pointer (some ⟨bx, 0, none⟩), .pointer (some ⟨bY, 0, none⟩)] w fun e w' => RQE w (p + q) (L + M + 3) e w' := by
  have HX := hide hX
  have HY := hide hY
  clear hX hY
  go_enter Tryz.func11, Tryz.ntmps11
  go_wp2_with fail
  refine (rAdd_at bx bY p q L M _ HX.out HY.out hL).mono ?_
  rintro e w1 ⟨b, rfl, h⟩
  have H := hide h
  clear h
  go_wp2
  go_ret
  exact ⟨b, rfl, H.out⟩
theorem setInt64R_at (bz : Nat) (n1 n2 : Bool) (v1 v2 : Value) (x : Int) (w : World) (hz1 : Box w bz 0 n1 v1) (hz2 : Box w bz 2 n2 v2) (h1 : -9223372036854775808 ≤ x) (h2 : x ≤ 9223372036854775807) :
    Calls Tryz.prog 31 #[.pointer (some ⟨bz, 0, none⟩), .int .i64 x] w fun e w' => e = .returned (.pointer (some ⟨bz, 0, none⟩)) ∧ RPut w w' bz ∧ RQ w' bz (x : Rat) 4 := by
  have Z1 := hide hz1
  have Z2 := hide hz2
  clear hz1 hz2
  go_enter Tryz.func31, Tryz.ntmps31
  go_wp2_with fail
  refine (newInt_at x _ h1 h2).mono ?_
  rintro e w1 ⟨rfl, a1, a2, a3⟩
  have A1 := hide a1
  have A2 := hide a2
  clear a1 a2 a3
  go_wp2_with fail
  refine (newInt_at 1 _ (by omega) (by omega)).mono ?_
  rintro e w2 ⟨rfl, b1, b2, b3⟩
  have B1 := hide b1
  have B2 := hide b2
  clear b1 b2 b3
  go_wp2_with fail
  refine (setFrac_pos bz w.heap.size 0 w1.heap.size 0 n1 n2 v1 v2 x 1 2 _ ((Z1.out.keep0 A1.out).keep0 B1.out) ((Z2.out.keep0 A1.out).keep0 B1.out) (A2.out.keep0 B1.out) B2.out (by omega) (by omega)).mono ?_
  rintro e w3 ⟨rfl, c1, c2⟩
  have C1 := hide c1
  have C2 := hide c2
  clear c1 c2
  go_wp2
  go_ret
  exact ⟨rfl, ((RPut.of_gr A1.out).trans (RPut.of_gr B1.out)).trans C1.out, RatAt.q (by omega) (mkRat_one x) C2.out⟩
theorem rN_at (x : Int) (w : World) (h1 : -9223372036854775808 ≤ x) (h2 : x ≤ 9223372036854775807) :
    Calls Tryz.prog 10 #[.int .i64 x] w fun e w' => RQE w (x : Rat) 4 e w' := by
  go_enter Tryz.func10, Tryz.ntmps10
  go_wp2_with fail
  refine (setInt64R_at w.heap.size false false (.slice none 0 0) (.slice none 0 0) x _ (newRatB w).1 (newRatB w).2 h1 h2).mono ?_
  rintro e w1 ⟨rfl, a1, a2⟩
  have A1 := hide a1
  have A2 := hide a2
  clear a1 a2
  go_wp2
  go_ret
  exact ⟨_, rfl, A2.out, gr_rput (gr_alloc (gr_refl _ _) _) A1.out (Nat.le_refl _), Nat.le_refl _⟩
end Go.Proofs.YtklkpkkjakllfaaGreatDoor
