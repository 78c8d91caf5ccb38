/- voltaiclaw: sameWay, slices.EqualFunc. -/
import Derived.Test.YtidnhafllbckcaaGMath2
namespace Go.Proofs.Ytidnhafllbckcaa
open Go.RowKit
set_option linter.unusedVariables false
set_option linter.unusedSimpArgs false

/-- Two that are the same at one level. -/
def SameAt (n : Nat) : Prop := ∀ (t : Ex n) (c0 c1 c2 c3 d0 d1 d2 d3 : Value) (w : World), WayC w n c0 c1 c2 c3 t → WayC w n d0 d1 d2 d3 t →
    Calls Try.prog 13 #[.agg #[c0, c1, c2, c3], .agg #[d0, d1, d2, d3]] w fun e w' => e = .returned (.bool true) ∧ w.grownBy w' none

def EqfR (w : World) (m : Nat) (iv : Value) (wr : World) : Prop := ∃ i : Nat, i ≤ m ∧ iv = .int .i64 (i : Nat) ∧ w.grownBy wr none

set_option maxHeartbeats 8000000 in
set_option maxRecDepth 10000 in
theorem equalFunc_at (n : Nat) (hn : SameAt n) (l : List (Ex n)) (ao bo : Option Addr) (ac bc : Nat) (w : World) (ha : WayR w n ao l) (hb : WayR w n bo l) (h1 : l.length ≤ ac) (h2 : ac ≤ maxLen) (h3 : l.length ≤ bc) (h4 : bc ≤ maxLen) :
    Calls Try.prog 23 #[.slice ao l.length ac, .slice bo l.length bc, .func (.func 13) #[] #[]] w fun e w' => e = .returned (.bool true) ∧ w.grownBy w' none := by
  have HN := hide hn
  have HA := hide ha
  have HB := hide hb
  unfold maxLen at h2 h4
  clear hn ha hb
  go_enter Try.func23, Try.ntmps23
  go_wp2
  go_loopw [17] (fun iv wr => Hid (EqfR w l.length iv wr)) (fun iv _ => l.length - (intOf iv).toNat)
  case atStart => exact ⟨0, Nat.zero_le _, rfl, gr_refl _ _⟩
  case round =>
    obtain ⟨j, hj, rfl, hgr⟩ := hrel.out
    have HGR := hide hgr
    clear hgr hrel
    by_cases hlt : j < l.length
    · obtain ⟨bb, off, rfl, hbl, d0, d1, d2, d3, k0, k1, k2, k3, hk⟩ := HA.out j hlt
      obtain ⟨bb2, off2, rfl, hbl2, f0, f1, f2, f3, m0, m1, m2, m3, hm⟩ := HB.out j hlt
      have q0 := gr_cell HGR.out k0
      have q1 := gr_cell HGR.out k1
      have q2 := gr_cell HGR.out k2
      have q3 := gr_cell HGR.out k3
      have r0 := gr_cell HGR.out m0
      have r1 := gr_cell HGR.out m1
      have r2 := gr_cell HGR.out m2
      have r3 := gr_cell HGR.out m3
      have HK := hide (hk.keep HGR.out)
      have HM := hide (hm.keep HGR.out)
      obtain ⟨kd2, i2, b2, ao2, len2, cap2, rfl, rfl, rfl, rfl⟩ := hk.cells
      obtain ⟨kd3, i3, b3, ao3, len3, cap3, rfl, rfl, rfl, rfl⟩ := hm.cells
      have hsz := HGR.out.size
      have hw1 : bb2 < wr.heap.size := by omega
      have hw2 : bb < wr.heap.size := by omega
      clear k0 k1 k2 k3 m0 m1 m2 m3 hk hm
      go_wp2_with fail
      refine (HN.out (l[j]) _ _ _ _ _ _ _ _ _ (HK.out.keep (gr_alloc (gr_alloc (gr_refl _ _) _) _)) (HM.out.keep (gr_alloc (gr_alloc (gr_refl _ _) _) _))).mono ?_
      rintro e w2 ⟨rfl, g2⟩
      have G2 := hide (gr_none (gr_alloc (gr_alloc HGR.out _) _) g2)
      clear g2
      go_wp2
      go_roundw
      case rel => exact ⟨j + 1, by omega, by go_num, G2.out⟩
      case measure => simp [intOf]; omega
    · obtain rfl : j = l.length := by omega
      go_wp2
      go_ret
      exact ⟨rfl, HGR.out⟩

set_option maxHeartbeats 8000000 in
set_option maxRecDepth 10000 in
theorem same_at : ∀ n, SameAt n := by
  intro n
  induction n with
  | zero => intro t; exact t.elim
  | succ n ih =>
    intro t c0 c1 c2 c3 d0 d1 d2 d3 w hc hd
    obtain ⟨kd, i, b, l⟩ := t
    obtain ⟨e0, e1, e2, ao, cap, e3, h1, h2, h3⟩ := hc
    obtain ⟨f0, f1, f2, bo, cap2, f3, h4, h5, h6⟩ := hd
    dsimp only at e0 e1 e2 e3 f0 f1 f2 f3 h1 h2 h3 h4 h5 h6
    subst e0 e1 e2 e3 f0 f1 f2 f3
    have IH := hide ih
    have HA := hide (show WayR w n ao l from h3)
    have HB := hide (show WayR w n bo l from h6)
    clear h3 h6 ih
    go_enter Try.func13, Try.ntmps13
    go_wp2_with fail
    refine (equalFunc_at n IH.out l ao bo cap cap2 _ (HA.out.keep (gr_alloc (gr_alloc (gr_refl _ _) _) _)) (HB.out.keep (gr_alloc (gr_alloc (gr_refl _ _) _) _)) h1 h2 h4 h5).mono ?_
    rintro e w2 ⟨rfl, g2⟩
    have G2 := hide (gr_none (gr_alloc (gr_alloc (gr_refl w none) _) _) g2)
    clear g2
    go_wp2
    go_ret
    exact ⟨rfl, G2.out⟩
end Go.Proofs.Ytidnhafllbckcaa
