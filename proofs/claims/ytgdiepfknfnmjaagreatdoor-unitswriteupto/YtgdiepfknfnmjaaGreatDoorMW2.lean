/- The fraction that is nothing; its den. -/
import Derived.Test.YtgdiepfknfnmjaaGreatDoorRats
import Derived.Test.YtgdiepfknfnmjaaGreatDoorROf2
import Derived.Test.YtgdiepfknfnmjaaGreatDoorMRb
import Derived.Test.YtgdiepfknfnmjaaGreatDoorMFd
namespace Go.Proofs.YtgdiepfknfnmjaaGreatDoor
open Go.RowKit
set_option linter.unusedVariables false
set_option linter.unusedSimpArgs false

/-- The fraction that is nothing: both of its numbers are 0. -/
def RNil (w : World) (b L : Nat) : Prop := IntAt w b 0 0 L ∧ IntAt w b 2 0 L

theorem RNil.keep0 {w w' : World} {b L : Nat} (h : RNil w b L) (hg : w.grownBy w' none) : RNil w' b L := ⟨h.1.keep0 hg, h.2.keep0 hg⟩

set_option maxHeartbeats 1000000 in
theorem den_nil (b L : Nat) (w : World) (h : RNil w b L) :
    Calls Tryz.prog 81 #[.pointer (some ⟨b, 0, none⟩)] w fun e w' => e = .returned (.pointer (some ⟨w.heap.size, 0, none⟩)) ∧ w.grownBy w' none ∧ IntAt w' w.heap.size 0 1 2 ∧ NewIn w w' w.heap.size 0 := by
  obtain ⟨nb, vb, b1, b2, b3, b4⟩ := h.2
  obtain ⟨bo, lb, cb, rfl, y1, y2, y3, y4, y5, y6⟩ := num_zero b2
  obtain rfl : lb = 0 := y1.2 rfl
  have d1 : w.cell? ⟨b, 3, none⟩ = some (.slice bo 0 cb) := b1.c1
  clear b1 b2 b3 b4 y1 y5 y6 h
  go_enter Tryz.func81, Tryz.ntmps81
  go_wp2_with fail
  refine (newInt_at 1 _ (by omega) (by omega)).mono ?_
  rintro e w1 ⟨rfl, a1, a2, a3⟩
  have A1 := hide a1
  have A2 := hide a2
  have A3 := hide a3
  clear a1 a2 a3
  go_wp2
  go_ret
  exact ⟨rfl, A1.out, A2.out, A3.out⟩

end Go.Proofs.YtgdiepfknfnmjaaGreatDoor

namespace Go.Proofs.YtgdiepfknfnmjaaGreatDoor
open Go.RowKit
set_option linter.unusedVariables false
set_option linter.unusedSimpArgs false

theorem sg_sgq (b : Bool) (n : Nat) : sg b n = sgq b n := rfl

theorem rOf_at (s : ByteArray) (m : Int) (w : World) (hs : s.size ≤ 100000000) (hml : w.cell? ⟨5, 0, none⟩ = some (.int .i64 m)) :
    Calls Tryz.prog 11 #[.string s] w fun e w' => ∃ b, e = .returned (.pointer (some ⟨b, 0, none⟩)) ∧ w.grownBy w' none ∧ (RQ w' b (ofR s.data.toList) (3 * s.size + 8) ∨ (ofR s.data.toList = 0 ∧ RNil w' b (3 * s.size + 8))) := by
  refine (refOf_at s m w hs hml).mono ?_
  rintro e w' ⟨b, rfl, h1, h2, h3, h4⟩
  refine ⟨b, rfl, h1, ?_⟩
  have hq := ofQ_R s.data.toList
  have e1 : sg (ofQ s.data.toList).1 (ofQ s.data.toList).2.1 = (ofR s.data.toList).num := by rw [hq]; exact rat_sgn _
  have e2 : (ofQ s.data.toList).2.2 = (ofR s.data.toList).den := by rw [hq]
  rw [e1] at h3 h4
  rw [e2] at h4
  rcases h4 with h4 | ⟨h4, h5⟩
  · exact .inl h4
  · right
    rw [hq] at h4
    simp only [Prod.mk.injEq] at h4
    have hn : (ofR s.data.toList).num = 0 := by
      have := h4.2.1
      unfold rN at this
      omega
    have h0 : ofR s.data.toList = 0 := Rat.num_eq_zero.1 hn
    rw [hn] at h3
    exact ⟨h0, h3, h5⟩
end Go.Proofs.YtgdiepfknfnmjaaGreatDoor

namespace Go.Proofs.YtgdiepfknfnmjaaGreatDoor
open Go.RowKit
set_option linter.unusedVariables false
set_option linter.unusedSimpArgs false

set_option maxHeartbeats 2000000 in
theorem isInt_nil (b L : Nat) (w : World) (h : RNil w b L) :
    Calls Tryz.prog 46 #[.pointer (some ⟨b, 0, none⟩)] w fun e w' => e = .returned (.bool true) ∧ w.grownBy w' none := by
  have H := hide h
  clear h
  have ho : (ord 1 1 == 0) = true := by rw [ord_eq]; rfl
  go_enter Tryz.func46, Tryz.ntmps46
  go_wp2_with fail
  refine (den_nil b L _ H.out).mono ?_
  rintro e w1 ⟨rfl, d1, d2, d3⟩
  have D1 := hide d1
  have D2 : Hid (IntAt w1 w.heap.size 0 ((1 : Nat) : Int) 2) := d2
  clear d1 d2 d3
  go_wp2_with fail
  refine (newInt_at 1 _ (by omega) (by omega)).mono ?_
  rintro e w2 ⟨rfl, a1, a2, a3⟩
  have A1 := hide a1
  have A2 : Hid (IntAt w2 w1.heap.size 0 ((1 : Nat) : Int) 2) := a2
  clear a1 a2 a3
  go_wp2_with fail
  refine (intCmp_at w.heap.size 0 w1.heap.size 0 1 1 2 2 _ (D2.out.keep0 A1.out) A2.out).mono ?_
  rintro e w3 ⟨rfl, b1⟩
  have B1 := hide (gr_none D1.out (gr_none A1.out b1))
  clear b1
  generalize ord 1 1 = oo at ho ⊢
  go_wp2
  go_ret
  exact ⟨by first | rfl | rw [ho], B1.out⟩

set_option maxHeartbeats 1000000 in
theorem numNil_at (b L : Nat) (w : World) (h : RNil w b L) :
    Calls Tryz.prog 44 #[.pointer (some ⟨b, 0, none⟩)] w fun e w' => e = .returned (.pointer (some ⟨b, 0, none⟩)) ∧ w' = w := by
  obtain ⟨n1, v1, b1, _⟩ := h.1
  have c0 := b1.c0
  clear b1 h
  go_enter Tryz.func44, Tryz.ntmps44
  go_wp2
  go_ret
  exact ⟨rfl, rfl⟩

set_option maxHeartbeats 2000000 in
theorem rT_nil (b L : Nat) (w : World) (h : RNil w b L) (hL : L ≤ 10000000) :
    Calls Tryz.prog 10 #[.pointer (some ⟨b, 0, none⟩)] w fun e w' => e = .returned (.string ⟨(qtext 0).toArray⟩) ∧ w.grownBy w' none := by
  have H := hide h
  clear h
  have hq : Hid (qtext 0 = itext 0) := by show _ = _; rw [qtext_eq, if_pos (by rfl), List.append_nil]; rfl
  rw [hq.out]
  have hl1 := itext_len H.out.1 hL
  obtain ⟨A, hA⟩ : ∃ l, l = itext 0 := ⟨_, rfl⟩
  rw [← hA] at hl1 ⊢
  have HA := hide hA
  clear hA
  go_enter Tryz.func10, Tryz.ntmps10
  go_wp2_with fail
  refine (isInt_nil b L _ H.out).mono ?_
  rintro e w1 ⟨rfl, g1⟩
  have G1 := hide g1
  have H1 := hide (H.out.keep0 g1)
  clear g1
  go_wp2_with fail
  refine (numNil_at b L _ H1.out).mono ?_
  rintro e wn ⟨rfl, hwn⟩
  rw [hwn]
  clear hwn
  go_wp2_with fail
  refine (intString_at b 0 0 L _ H1.out.1 (by omega)).mono ?_
  rintro e w2 ⟨rfl, g2⟩
  have G2 := hide (gr_none G1.out g2)
  clear g2
  rw [← HA.out]
  go_wp2
  go_ret
  exact ⟨rfl, G2.out⟩
end Go.Proofs.YtgdiepfknfnmjaaGreatDoor
