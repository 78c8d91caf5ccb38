/- slices.Equal of texts. -/
import Derived.Test.YtnpfjnkmpbmgeaaGreatDoorXVb
import Derived.Test.YtnpfjnkmpbmgeaaGreatDoorXVBnc
namespace Go.Proofs.YtnpfjnkmpbmgeaaGreatDoor
open Go.RowKit
set_option linter.unusedVariables false
set_option linter.unusedSimpArgs false
theorem bytes_ext {x y : ByteArray} (h : x.toList = y.toList) : x = y := by
  rw [ByteArray.toList_eq, ByteArray.toList_eq] at h
  cases x
  cases y
  congr 1
  exact Array.ext' h
def EquR (W : World) (xs ys : List ByteArray) (v : Value) (wr : World) : Prop := ∃ i : Nat, i ≤ xs.length ∧ v = .int .i64 i ∧ (∀ j, j < i → xs[j]? = ys[j]?) ∧ W.grownBy wr none
set_option maxHeartbeats 4000000 in
set_option maxRecDepth 10000 in
theorem equalQ_at (v1 v2 : Value) (xs ys : List ByteArray) (w : World) (h1 : RowG sv w v1 xs) (h2 : RowG sv w v2 ys) (hl : xs.length ≤ 100000) (hl2 : ys.length ≤ 100000) :
    Calls Tryz.prog 18 #[v1, v2] w fun e w' => e = .returned (.bool (decide (xs = ys))) ∧ w.grownBy w' none := by
  obtain ⟨ao, cap, rfl, a1, a2, a3⟩ := h1
  obtain ⟨bo, cap2, rfl, b1, b2, b3⟩ := h2
  unfold maxLen at a2 b2
  have A3 := hide a3
  have B3 := hide b3
  clear a3 b3
  by_cases hlen : xs.length = ys.length
  · have HLEN := hide hlen
    have hneq : (((xs.length : Nat) : Int) == ((ys.length : Nat) : Int)) = true := by rw [hlen]; simp
    rw [← hlen]
    have hcc : xs.length ≤ cap2 := by omega
    clear hlen hneq
    go_enter Tryz.func18, Tryz.ntmps18
    go_wp2
    go_loopw [13] (fun v wr => Hid (EquR w xs ys v wr)) (fun v _ => xs.length - (intOf v).toNat)
    case atStart => exact ⟨0, by omega, rfl, fun j hj => by omega, gr_refl _ _⟩
    case round =>
      obtain ⟨i, hi, rfl, l1, l2⟩ := hrel.out
      have L1 := hide l1
      have L2 := hide l2
      clear l1 l2 hrel
      by_cases hlt : i < xs.length
      · have hlt2 : i < ys.length := by have := HLEN.out; omega
        obtain ⟨b, off, rfl, hb, ca⟩ := A3.out i hlt
        obtain ⟨b', off', rfl, hb', cb⟩ := B3.out i hlt2
        obtain ⟨x, hx⟩ : ∃ x, x = xs[i] := ⟨_, rfl⟩
        obtain ⟨y, hy⟩ : ∃ y, y = ys[i] := ⟨_, rfl⟩
        rw [← hx] at ca
        rw [← hy] at cb
        have c1 := L2.out.cell ca (by simp)
        have c2 := L2.out.cell cb (by simp)
        have HX := hide hx
        have HY := hide hy
        have hi1 : (0 : Int) ≤ (i : Int) := by omega
        have hi2 : (i : Int) < (xs.length : Int) := by omega
        clear ca cb hx hy
        by_cases hxy : x = y
        · subst hxy
          go_wp2
          go_region
          all_goals
            go_wp2
            go_roundw
            case rel =>
              refine ⟨i + 1, by omega, by go_num, fun j hj => ?_, by first | exact gr_none L2.out gr_d1 | exact gr_none L2.out (gr_d _) | exact L2.out⟩
              by_cases e : j = i
              · subst e
                rw [List.getElem?_eq_getElem hlt, List.getElem?_eq_getElem hlt2, ← HX.out, ← HY.out]
              · exact L1.out j (by omega)
            case measure => simp [intOf]; omega
        · have hne : (x.toList == y.toList) = false := beq_eq_false_iff_ne.2 (fun e => hxy (bytes_ext e))
          have HXY := hide hxy
          go_wp2
          go_region
          all_goals
            go_wp2
            go_ret
            refine ⟨?_, by first | exact gr_none L2.out gr_d1 | exact gr_none L2.out (gr_d _) | exact L2.out⟩
            have : xs ≠ ys := by
              intro e
              apply HXY.out
              rw [HX.out, HY.out]
              subst e
              rfl
            rw [decide_eq_false this]
            rfl
      · obtain rfl : i = xs.length := by omega
        go_wp2
        go_ret
        refine ⟨?_, L2.out⟩
        have : xs = ys := by
          apply List.ext_getElem?
          intro j
          by_cases hj : j < xs.length
          · exact L1.out j hj
          · rw [List.getElem?_eq_none (by omega), List.getElem?_eq_none (by have := HLEN.out; omega)]
        rw [decide_eq_true this]
        rfl
  · have hneq : (((xs.length : Nat) : Int) == ((ys.length : Nat) : Int)) = false := by
      apply beq_eq_false_iff_ne.2
      omega
    have hne : xs ≠ ys := fun e => hlen (by rw [e])
    rw [decide_eq_false hne]
    clear hlen hne
    go_enter Tryz.func18, Tryz.ntmps18
    go_wp2
    go_ret
    exact ⟨rfl, gr_refl _ _⟩
end Go.Proofs.YtnpfjnkmpbmgeaaGreatDoor

namespace Go.Proofs.YtnpfjnkmpbmgeaaGreatDoor
open Go.RowKit
set_option linter.unusedVariables false
set_option linter.unusedSimpArgs false
theorem of100 : (100 : Rat) = ofR (⟨#[49, 48, 48]⟩ : ByteArray).data.toList := by decide +kernel
theorem of50 : (50 : Rat) = ofR (⟨#[53, 48]⟩ : ByteArray).data.toList := by decide +kernel
theorem of1 : (1 : Rat) = ofR (⟨#[49]⟩ : ByteArray).data.toList := by decide +kernel
theorem of0 : (0 : Rat) = ofR (⟨#[48]⟩ : ByteArray).data.toList := by decide +kernel
theorem fitS : FitW 1 (100 : Rat) ∧ FitW 1 (50 : Rat) ∧ FitW 1 (1 : Rat) ∧ FitW 1 (0 : Rat) := by
  unfold FitW
  decide +kernel
theorem echo_r : rfC 100 0 50 = 0 ∧ txZ (rfC 100 0 50) (rfR 100 0 50) (rfI 100 0 50) = .agg #[.string ⟨#[49, 47, 51]⟩, .string ⟨#[48]⟩] := by
  have h1 : rfC 100 0 50 = 0 := by decide +kernel
  have h2 : qtext (rfR 100 0 50) = [49, 47, 51] := by decide +kernel
  have h3 : qtext (rfI 100 0 50) = [48] := by decide +kernel
  refine ⟨h1, ?_⟩
  unfold txZ
  rw [h1, if_pos rfl, h2, h3]
theorem echo_b : (1 : Rat) / 2 = 1 * 50 / (50 + 50) ∧ (2 : Rat) / 3 = 1 / 2 + 1 / 2 * ((100 - 50) / (100 + 50)) ∧ (0 : Rat) = (50 - 50) / (50 + 50) * ((100 - 50) / (100 + 50)) := by decide +kernel
theorem bo_closed : ∀ n, bo (1 / 2) (2 / 3) 0 (n + 1) = 2 / 3 := by
  intro n
  rw [bo_succ]
  grind
theorem bo_closed_fit : ∀ i, i ≤ 50 → FitW 1 (bo (1 / 2) (2 / 3) 0 i) := by
  intro i _
  cases i with
  | zero =>
    show FitW 1 (1 / 2)
    unfold FitW
    decide +kernel
  | succ n =>
    rw [bo_closed]
    unfold FitW
    decide +kernel
theorem echo_t : textsL (bo (1 / 2) (2 / 3) 0) (2 + 1) = [⟨#[49, 47, 50]⟩, ⟨#[50, 47, 51]⟩, ⟨#[50, 47, 51]⟩] := by
  have h1 : qtext (1 / 2) = [49, 47, 50] := by decide +kernel
  have h2 : qtext (2 / 3) = [50, 47, 51] := by decide +kernel
  have e0 : bo (1 / 2) (2 / 3) 0 0 = 1 / 2 := rfl
  have e1 := bo_closed 0
  have e2 := bo_closed 1
  simp only [textsL, List.range_succ, List.range_zero, List.nil_append, List.map_append, List.map_cons, List.map_nil, e0, e1, e2, h1, h2]
  rfl
theorem row3 (w : World) (x y z : ByteArray) : RowG sv (w.alloc (Obj.cells #[sv x, sv y, sv z] 22)) (.slice (some ⟨w.heap.size, 0, none⟩) 3 3) [x, y, z] := by
  refine ⟨_, _, rfl, Nat.le_refl _, by unfold maxLen; decide, ?_⟩
  intro i hi
  refine ⟨w.heap.size, 0, rfl, by simp, ?_⟩
  have h := boxNew w #[sv x, sv y, sv z] 22
  rw [h.cell]
  simp only [List.length_cons, List.length_nil] at hi
  match i, hi with
  | 0, _ => rfl
  | 1, _ => rfl
  | 2, _ => rfl
set_option maxHeartbeats 8000000 in
set_option maxRecDepth 10000 in
theorem echoes_at (m : Int) (w : World) (hml : w.cell? ⟨0, 0, none⟩ = some (.int .i64 m)) (htab : Tab10 w) :
    Calls Tryz.prog 4 #[] w fun e w' => e = .returned (.bool true) ∧ w.grownBy w' none := by
  have HM := hide hml
  have HT := hide htab
  clear hml htab
  go_enter Tryz.func4, Tryz.ntmps4
  go_wp2_with fail
  refine (Reflect_at ⟨#[49, 48, 48]⟩ ⟨#[48]⟩ ⟨#[53, 48]⟩ 100 0 50 m 1 w of100 of0 of50 (by decide) (by decide) (by decide) fitS.1 fitS.2.2.2 fitS.2.1 (by decide) HM.out HT.out).mono ?_
  rintro e w1 ⟨rfl, g1⟩
  rw [echo_r.2, echo_r.1]
  have G1 := hide g1
  clear g1
  go_upto_region 2 with fail
  obtain ⟨W2, hW2⟩ : ∃ wz, wz = (w1.alloc (Obj.cells #[.string ⟨#[49, 47, 51]⟩, .string ⟨#[48]⟩] 24)) := ⟨_, rfl⟩
  have GW2 : Hid (w1.grownBy W2 none) := by rw [hW2]; exact gr_alloc (gr_refl _ _) _
  have BO : Hid (∀ wx, W2.grownBy wx none → BoxC wx w1.heap.size #[.string ⟨#[49, 47, 51]⟩, .string ⟨#[48]⟩]) := by
    intro wx g
    rw [hW2] at g
    exact (boxNew w1 #[.string ⟨#[49, 47, 51]⟩, .string ⟨#[48]⟩] 24).keep0 g
  rw [← hW2]
  clear hW2
  have GA := hide (gr_none G1.out GW2.out)
  go_wp2_with fail
  refine (bounce_ok ⟨#[49]⟩ ⟨#[53, 48]⟩ ⟨#[53, 48]⟩ ⟨#[49, 48, 48]⟩ 1 50 50 100 2 m 1 W2 (by decide) of1 of50 of50 of100 (by decide) (by decide) (by decide) (by decide) fitS.2.2.1 fitS.2.1 fitS.2.1 fitS.1 (by decide) (gr_cell GA.out HM.out) 1 (1 / 2) (2 / 3) 0 echo_b.1 echo_b.2.1 echo_b.2.2 (by decide +kernel) (by decide +kernel) (by decide +kernel) bo_closed_fit (by decide) (HT.out.keep0 GA.out)).mono ?_
  rintro e w3 ⟨ao, cap, rfl, r3, g3⟩
  rw [echo_t] at r3
  obtain ⟨o0, o1, of0, of1⟩ := (BO.out w3 g3).c2
  have R3 := hide r3
  have G3 := hide (gr_none GA.out g3)
  clear r3 g3
  go_wp2_with fail
  refine (equalQ_at _ _ [⟨#[49, 47, 50]⟩, ⟨#[50, 47, 51]⟩, ⟨#[50, 47, 51]⟩] [⟨#[49, 47, 50]⟩, ⟨#[50, 47, 51]⟩, ⟨#[50, 47, 51]⟩] _ (R3.out.keep (gr_alloc (gr_refl _ _) _)) (row3 _ _ _ _) (by decide) (by decide)).mono ?_
  rintro e w4 ⟨rfl, g4⟩
  have G4 := hide (gr_none G3.out (gr_none (gr_alloc (gr_refl _ _) _) g4))
  clear g4
  go_wp2
  go_ret
  exact ⟨by first | rfl | simp, G4.out⟩
end Go.Proofs.YtnpfjnkmpbmgeaaGreatDoor
