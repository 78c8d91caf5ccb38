/- slices.Equal of texts. -/
import Derived.Test.YtbihhkcgiepgaaeGreatDoorTTextA
namespace Go.Proofs.YtbihhkcgiepgaaeGreatDoor
open Go.RowKit
set_option linter.unusedVariables false
set_option linter.unusedSimpArgs false

theorem bytes_ext {x y : ByteArray} (h : x.toList = y.toList) : x = y := by
  rw [ByteArray.toList_eq, ByteArray.toList_eq] at h
  cases x
  cases y
  congr 1
  exact Array.ext' h

def EquR (W : World) (xs ys : List ByteArray) (v : Value) (wr : World) : Prop := ∃ i : Nat, i ≤ xs.length ∧ v = .int .i64 i ∧ (∀ j, j < i → xs[j]? = ys[j]?) ∧ W.grownBy wr none

set_option maxHeartbeats 4000000 in
set_option maxRecDepth 10000 in
/-- slices.Equal of texts. -/
theorem equalQ_at (v1 v2 : Value) (xs ys : List ByteArray) (w : World) (h1 : RowG sv w v1 xs) (h2 : RowG sv w v2 ys) (hl : xs.length ≤ 100000) (hl2 : ys.length ≤ 100000) :
    Calls Tryz.prog 27 #[v1, v2] w fun e w' => e = .returned (.bool (decide (xs = ys))) ∧ w.grownBy w' none := by
  obtain ⟨ao, cap, rfl, a1, a2, a3⟩ := h1
  obtain ⟨bo, cap2, rfl, b1, b2, b3⟩ := h2
  unfold maxLen at a2 b2
  have A3 := hide a3
  have B3 := hide b3
  clear a3 b3
  by_cases hlen : xs.length = ys.length
  · have HLEN := hide hlen
    have hneq : (((xs.length : Nat) : Int) == ((ys.length : Nat) : Int)) = true := by rw [hlen]; simp
    rw [← hlen]
    have hcc : xs.length ≤ cap2 := by omega
    clear hlen hneq
    go_enter Tryz.func27, Tryz.ntmps27
    go_wp2
    go_loopw [13] (fun v wr => Hid (EquR w xs ys v wr)) (fun v _ => xs.length - (intOf v).toNat)
    case atStart => exact ⟨0, by omega, rfl, fun j hj => by omega, gr_refl _ _⟩
    case round =>
      obtain ⟨i, hi, rfl, l1, l2⟩ := hrel.out
      have L1 := hide l1
      have L2 := hide l2
      clear l1 l2 hrel
      by_cases hlt : i < xs.length
      · have hlt2 : i < ys.length := by have := HLEN.out; omega
        obtain ⟨b, off, rfl, hb, ca⟩ := A3.out i hlt
        obtain ⟨b', off', rfl, hb', cb⟩ := B3.out i hlt2
        obtain ⟨x, hx⟩ : ∃ x, x = xs[i] := ⟨_, rfl⟩
        obtain ⟨y, hy⟩ : ∃ y, y = ys[i] := ⟨_, rfl⟩
        rw [← hx] at ca
        rw [← hy] at cb
        have c1 := L2.out.cell ca (by simp)
        have c2 := L2.out.cell cb (by simp)
        have HX := hide hx
        have HY := hide hy
        have hi1 : (0 : Int) ≤ (i : Int) := by omega
        have hi2 : (i : Int) < (xs.length : Int) := by omega
        clear ca cb hx hy
        by_cases hxy : x = y
        · subst hxy
          go_wp2
          go_region
          all_goals
            go_wp2
            go_roundw
            case rel =>
              refine ⟨i + 1, by omega, by go_num, fun j hj => ?_, by first | exact gr_none L2.out gr_d1 | exact gr_none L2.out (gr_d _) | exact L2.out⟩
              by_cases e : j = i
              · subst e
                rw [List.getElem?_eq_getElem hlt, List.getElem?_eq_getElem hlt2, ← HX.out, ← HY.out]
              · exact L1.out j (by omega)
            case measure => simp [intOf]; omega
        · have hne : (x.toList == y.toList) = false := beq_eq_false_iff_ne.2 (fun e => hxy (bytes_ext e))
          have HXY := hide hxy
          go_wp2
          go_region
          all_goals
            go_wp2
            go_ret
            refine ⟨?_, by first | exact gr_none L2.out gr_d1 | exact gr_none L2.out (gr_d _) | exact L2.out⟩
            have : xs ≠ ys := by
              intro e
              apply HXY.out
              rw [HX.out, HY.out]
              subst e
              rfl
            rw [decide_eq_false this]
            rfl
      · obtain rfl : i = xs.length := by omega
        go_wp2
        go_ret
        refine ⟨?_, L2.out⟩
        have : xs = ys := by
          apply List.ext_getElem?
          intro j
          by_cases hj : j < xs.length
          · exact L1.out j hj
          · rw [List.getElem?_eq_none (by omega), List.getElem?_eq_none (by have := HLEN.out; omega)]
        rw [decide_eq_true this]
        rfl
  · have hneq : (((xs.length : Nat) : Int) == ((ys.length : Nat) : Int)) = false := by
      apply beq_eq_false_iff_ne.2
      omega
    have hne : xs ≠ ys := fun e => hlen (by rw [e])
    rw [decide_eq_false hne]
    clear hlen hne
    go_enter Tryz.func27, Tryz.ntmps27
    go_wp2
    go_ret
    exact ⟨rfl, gr_refl _ _⟩

theorem rowG_three (w : World) (t : TypeId) (x y z : ByteArray) : RowG sv (w.alloc (Obj.cells #[.string x, .string y, .string z] t)) (.slice (some ⟨w.heap.size, 0, none⟩) 3 3) [x, y, z] := by
  refine ⟨_, 3, rfl, Nat.le_refl 3, by unfold maxLen; omega, fun i hi => ⟨w.heap.size, 0, rfl, by simp, ?_⟩⟩
  have hn := heap_alloc_new w (Obj.cells #[.string x, .string y, .string z] t)
  have hi3 : i < 3 := hi
  simp only [World.cell?, hn, Nat.zero_add]
  match i, hi3 with
  | 0, _ => rfl
  | 1, _ => rfl
  | 2, _ => rfl

theorem rowG_four (w : World) (t : TypeId) (x y z u : ByteArray) : RowG sv (w.alloc (Obj.cells #[.string x, .string y, .string z, .string u] t)) (.slice (some ⟨w.heap.size, 0, none⟩) 4 4) [x, y, z, u] := by
  refine ⟨_, 4, rfl, Nat.le_refl 4, by unfold maxLen; omega, fun i hi => ⟨w.heap.size, 0, rfl, by simp, ?_⟩⟩
  have hn := heap_alloc_new w (Obj.cells #[.string x, .string y, .string z, .string u] t)
  have hi3 : i < 4 := hi
  simp only [World.cell?, hn, Nat.zero_add]
  match i, hi3 with
  | 0, _ => rfl
  | 1, _ => rfl
  | 2, _ => rfl
  | 3, _ => rfl

end Go.Proofs.YtbihhkcgiepgaaeGreatDoor
