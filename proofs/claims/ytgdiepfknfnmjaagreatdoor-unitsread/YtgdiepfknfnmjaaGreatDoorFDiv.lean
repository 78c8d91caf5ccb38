/- frac: divide (Knuth's algorithm D). -/
import Derived.Test.YtgdiepfknfnmjaaGreatDoorFBack
import Derived.Test.YtgdiepfknfnmjaaGreatDoorShelf
import Derived.Deep.RegionWith
namespace Go.Proofs.YtgdiepfknfnmjaaGreatDoor
open Go.RowKit
set_option linter.unusedVariables false

theorem gr_d {w : World} (n : Nat) : w.grownBy (w.drewN n) none := gr_drewN (gr_refl _ _) n

theorem Own.num {w : World} {base : Nat} {v : Value} {xs : List Nat} (h : Own w base v xs) (hs : Sm xs) (ht : Tr xs) (L : Nat) (hl : xs.length ≤ L) : Num w v (val xs) L := ⟨xs, h.ws hs, ht, rfl, hl⟩
theorem Own.fr {w w0 : World} {v : Value} {xs : List Nat} (h : Own w w0.heap.size v xs) : Fresh w0 v := fun k hk => (h.fresh k hk).1

/-- What divide answers: the rest in memory of its own. -/
def DividedO (w : World) (X Y L : Nat) (e : Ending) (w' : World) : Prop := ∃ q r, e = .returned (.tuple #[q, r]) ∧ Num w' q (X / Y) L ∧ OwnN w' w.heap.size r (X % Y) L ∧ w.grownBy w' none ∧ Fresh w q

/-- What divide answers. -/
def Divided (w : World) (X Y L : Nat) (e : Ending) (w' : World) : Prop := ∃ q r, e = .returned (.tuple #[q, r]) ∧ Num w' q (X / Y) L ∧ Num w' r (X % Y) L ∧ w.grownBy w' none ∧ Fresh w q ∧ Fresh w r

set_option maxHeartbeats 1000000 in
set_option maxRecDepth 10000 in
theorem divide_less (va vb : Value) (xs ys : List Nat) (w : World) (ha : Ws w va xs) (hb : Ws w vb ys) (tx : Tr xs) (ty : Tr ys) (hlt : val xs < val ys) (hl : xs.length ≤ 900000000) :
    Calls Tryz.prog 78 #[va, vb] w fun e w' => DividedO w (val xs) (val ys) xs.length e w' := by
  obtain ⟨ao, ca, ea, hca, hca', Ha⟩ := ha.open
  obtain ⟨bo, cb, eb, hcb, hcb', Hb⟩ := hb.open
  unfold maxLen at hca' hcb'
  have WA := hide ha
  have WB := hide hb
  have TX := hide tx
  have TY := hide ty
  have HLT := hide hlt
  subst ea eb
  clear Ha Hb ha hb tx ty hlt
  go_enter Tryz.func78, Tryz.ntmps78
  go_wp2_with fail
  refine (fcompare_ws _ _ xs ys _ WA.out WB.out TX.out TY.out).mono ?_
  rintro e w1 ⟨rfl, q1, rfl⟩
  have hord := ord_neg HLT.out
  generalize ord (val xs) (val ys) = o1 at hord ⊢
  go_wp2_with fail
  refine (fclone_own _ xs _ (WA.out.keep0 (gr_d _)) (by omega)).mono ?_
  rintro e w2 ⟨r', rfl, k1, k2⟩
  obtain ⟨ro, rc, rfl, _, _, _⟩ := k1.open
  have K1 := hide k1
  have K2 := hide k2
  clear k1 k2
  go_wp2
  go_ret2
  refine ⟨_, _, rfl, ?_, ?_, gr_none (gr_d _) K2.out, fun k hk => by simp [blockOf] at hk⟩
  · rw [Nat.div_eq_of_lt HLT.out]
    exact ⟨[], Ws.nil _, rfl, rfl, by simp⟩
  · rw [Nat.mod_eq_of_lt HLT.out]
    exact ⟨xs, K1.out, WA.out.sm, TX.out, rfl, Nat.le_refl _⟩

theorem divide_one_end {w w2 w3 w4 : World} {c' q' r' : Value} {xs : List Nat} {y r : Nat} (g2 : w.grownBy w2 none) (k1 : Own w2 w.heap.size c' xs) (s1 : Shrunk w2 w.heap.size c' xs y q' w3) (hr : r = val xs % y) (n1 : OwnN w4 w3.heap.size r' r 1) (n2 : w3.grownBy w4 none) (hx : 0 < xs.length) :
    DividedO w (val xs) (val [y]) xs.length (.returned (.tuple #[q', r'])) w4 := by
  obtain ⟨ys, o1, o2, o3, o4, o5, o6, o7⟩ := s1
  have ey : val [y] = y := by simp [val]
  have g3 : w.grownBy w3 none := gr_trans (r2 := blockOf c') g2 o6 (fun _ _ e => e) (fun b hb e => by have := (k1.fresh b e.symm).1; omega)
  refine ⟨q', r', rfl, ?_, ?_, gr_none g3 n2, o1.fr⟩
  · rw [ey, ← o4]
    exact (o1.num o2 o3 _ o5).keep0 n2
  · rw [ey, ← hr]
    exact (n1.base g3.size).mono hx

set_option maxHeartbeats 2000000 in
set_option maxRecDepth 10000 in
theorem divide_one (va vb : Value) (xs : List Nat) (y : Nat) (w : World) (ha : Ws w va xs) (hb : Ws w vb [y]) (tx : Tr xs) (ty : Tr [y]) (hle : y ≤ val xs) (hl : xs.length ≤ 900000000) :
    Calls Tryz.prog 78 #[va, vb] w fun e w' => DividedO w (val xs) (val [y]) xs.length e w' := by
  obtain ⟨ao, ca, ea, hca, hca', Ha⟩ := ha.open
  obtain ⟨bo, cb, eb, hcb, hcb', Hb⟩ := hb.open
  unfold maxLen at hca' hcb'
  obtain ⟨b, off, rfl, hbb, hcell⟩ := Hb 0 (by simp)
  simp only [Nat.add_zero, List.getElem_cons_zero] at hcell
  have hy0 : 0 < y := by have := ty.pos; simp only [val] at this; omega
  have hyb : y < 4294967296 := hb.sm y (by simp)
  have hxl : 0 < xs.length := by
    rcases Nat.eq_zero_or_pos xs.length with h | h
    · have : xs = [] := List.eq_nil_of_length_eq_zero h
      rw [this] at hle
      simp [val] at hle
      omega
    · exact h
  have WA := hide ha
  have WB := hide hb
  have TX := hide tx
  have TY := hide ty
  have HLE : Hid (val [y] ≤ val xs) := by simp only [val]; exact hle
  subst ea eb
  clear Ha Hb ha hb tx ty hle
  go_enter Tryz.func78, Tryz.ntmps78
  go_wp2_with fail
  refine (fcompare_ws _ _ xs [y] _ WA.out WB.out TX.out TY.out).mono ?_
  rintro e w1 ⟨rfl, q1, rfl⟩
  have hord := ord_ge HLE.out
  generalize ord (val xs) (val [y]) = o1 at hord ⊢
  go_wp2_with fail
  go_region_with (first
    | (go_at_call 111; refine (fclone_own _ xs _ (WA.out.keep0 (gr_d _)) (by omega)).mono ?_; rintro e w2 ⟨c', rfl, k1, k2⟩; have q0 := (gr_none (gr_d _) k2).cell hcell (by simp))
    | (go_at_call 112; refine (shrink_own _ xs y _ w.heap.size (by first | exact k1 | exact k1.drewN _) WA.out.sm hy0 hyb (by omega)).mono ?_; rintro e w3 ⟨q', r, rfl, hr, s1⟩; have hrb : r < 4294967296 := (by rw [hr]; exact Nat.lt_trans (Nat.mod_lt _ hy0) hyb); have HR := hide hr; have S1 := hide s1; have G2 := hide (gr_none (gr_d _) k2); have K1 := hide k1; clear hr s1 k1 k2))
  all_goals
    obtain ⟨qo, qc, ql, rfl⟩ : ∃ qo qc ql, q' = .slice qo ql qc := by
      obtain ⟨_, o1, _⟩ := S1.out
      obtain ⟨qo, qc, e, _⟩ := o1.open
      exact ⟨_, _, _, e⟩
    go_wp2_with fail
    refine (fword_own r _ hrb).mono ?_
    rintro e w4 ⟨r', rfl, n1, n2⟩
    obtain ⟨ro, rc, rl, rfl⟩ : ∃ ro rc rl, r' = .slice ro rl rc := by
      obtain ⟨_, o1, _⟩ := n1
      obtain ⟨ro, rc, e, _⟩ := o1.open
      exact ⟨_, _, _, e⟩
    have N1 := hide n1
    have N2 := hide n2
    clear n1 n2
    go_wp2
    go_ret2
    exact divide_one_end G2.out K1.out S1.out HR.out N1.out N2.out hxl
end Go.Proofs.YtgdiepfknfnmjaaGreatDoor
