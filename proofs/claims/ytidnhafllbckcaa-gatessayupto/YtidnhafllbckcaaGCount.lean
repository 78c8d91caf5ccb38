/- gates: count, Check. -/
import Derived.Test.YtidnhafllbckcaaGWrong
namespace Go.Proofs.Ytidnhafllbckcaa
open Go.RowKit
set_option linter.unusedVariables false
set_option linter.unusedSimpArgs false

/-- One behind the other, up to the first that is wrong. -/
def cntL {α : Type} (f : α → Nat → Nat × Int) : List α → Nat → Nat × Int
  | [], a => (a, 0)
  | t :: r, a => if (f t a).2 = 0 then cntL f r (f t a).1 else (0, (f t a).2)

/-- How many nodes there are with those of t, or what is wrong. -/
def countE (k : Int) : (n : Nat) → Ex n → Nat → Nat × Int
  | 0, _, _ => (0, 0)
  | n + 1, t, a => if wrongW k t.1 t.2.1 t.2.2.1 t.2.2.2.length = 0 then (if a = 40 then (0, 2) else cntL (countE k n) t.2.2.2 (a + 1)) else (0, wrongW k t.1 t.2.1 t.2.2.1 t.2.2.2.length)

theorem cntL_le {α : Type} (f : α → Nat → Nat × Int) (hf : ∀ t a, a ≤ 40 → (f t a).1 ≤ 40) : ∀ (l : List α) (a : Nat), a ≤ 40 → (cntL f l a).1 ≤ 40
  | [], a, h => h
  | t :: r, a, h => by
    unfold cntL
    split
    · exact cntL_le f hf r _ (hf t a h)
    · simp

theorem countE_le (k : Int) : ∀ (n : Nat) (t : Ex n) (a : Nat), a ≤ 40 → (countE k n t a).1 ≤ 40
  | 0, t, _, _ => t.elim
  | n + 1, t, a, h => by
    unfold countE
    split
    · split
      · simp
      · exact cntL_le _ (countE_le k n) _ _ (by omega)
    · simp

/-- What the loop keeps. -/
def CntR (w : World) (k : Int) (n : Nat) (l : List (Ex n)) (R : Nat × Int) (nv iv : Value) (wr : World) : Prop :=
  ∃ i a : Nat, i ≤ l.length ∧ a ≤ 40 ∧ iv = .int .i64 (i : Nat) ∧ nv = .int .i64 (a : Nat) ∧ cntL (countE k n) (l.drop i) a = R ∧ w.grownBy wr none

set_option maxHeartbeats 4000000 in
set_option maxRecDepth 10000 in
theorem count_at (k : Int) : ∀ (n : Nat) (t : Ex n) (c0 c1 c2 c3 : Value) (a : Nat) (w : World), WayC w n c0 c1 c2 c3 t → a ≤ 40 →
    Calls Try.prog 22 #[.agg #[c0, c1, c2, c3], .int .i64 k, .int .i64 (a : Nat)] w fun e w' => e = .returned (.tuple #[.int .i64 ((countE k n t a).1 : Nat), .int .i64 (countE k n t a).2]) ∧ w.grownBy w' none := by
  intro n
  induction n with
  | zero => intro t; exact t.elim
  | succ n ih =>
    intro t c0 c1 c2 c3 a w hw ha
    obtain ⟨kd, i, b, l, ao, cap, rfl, rfl, rfl, rfl, rfl, h1, h2, h3⟩ := hw.open
    have HR := hide h3
    have IH := hide ih
    clear hw h3 ih
    unfold maxLen at h2
    obtain ⟨R, hR⟩ : ∃ R, R = countE k (n + 1) (kd, i, b, l) a := ⟨_, rfl⟩
    rw [← hR]
    have hR2 : R = if wrongW k kd i b l.length = 0 then (if a = 40 then (0, 2) else cntL (countE k n) l (a + 1)) else (0, wrongW k kd i b l.length) := hR
    clear hR
    obtain ⟨x, hx⟩ : ∃ x, x = wrongW k kd i b l.length := ⟨_, rfl⟩
    have HX := hide hx
    rw [← hx] at hR2
    have HR2 := hide hR2
    clear hR2 hx
    go_enter Try.func22, Try.ntmps22
    go_wp2_with fail
    refine (wrong_at k kd i b ao l.length cap _).mono ?_
    rintro e w1 ⟨rfl, g1⟩
    rw [← HX.out]
    have G1 := hide (gr_none (gr_alloc (gr_refl w none) _) g1)
    have q3 := gr_cell g1 (show (w.alloc (Obj.cells #[.int .i64 kd, .int .i64 i, .bool b, .slice ao l.length cap] 24)).cell? ⟨w.heap.size, 3, none⟩ = some (.slice ao l.length cap) by go_simp)
    clear g1
    by_cases hz : x = 0
    · subst hz
      by_cases h40 : a = 40
      · subst h40
        have e : R = (0, 2) := by rw [HR2.out]; rfl
        subst e
        go_wp2
        go_ret2
        exact ⟨rfl, G1.out⟩
      · have h40' := ne_beq (show ((a : Nat) : Int) ≠ 40 by omega)
        have HS : Hid (cntL (countE k n) l (a + 1) = R) := by
          have := HR2.out
          rw [if_pos rfl, if_neg h40] at this
          exact this.symm
        go_wp2_with fail
        go_loopw [9, 27] (fun nv iv wr => Hid (CntR w k n l R nv iv wr)) (fun _ iv _ => l.length - (intOf iv).toNat)
        case atStart => exact ⟨0, a + 1, by omega, by omega, rfl, by go_num, HS.out, G1.out⟩
        case round =>
          obtain ⟨j, m, hj, hm, rfl, rfl, hF, hgr⟩ := hrel.out
          have HF := hide hF
          have HGR := hide hgr
          clear hF hgr hrel q3 HS
          by_cases hlt : j < l.length
          · obtain ⟨bb, off, rfl, hb, d0, d1, d2, d3, k0, k1, k2, k3, hk⟩ := HR.out j hlt
            have q0 := gr_cell HGR.out k0
            have q1 := gr_cell HGR.out k1
            have q2 := gr_cell HGR.out k2
            have q3 := gr_cell HGR.out k3
            have hd : l.drop j = l[j] :: l.drop (j + 1) := List.drop_eq_getElem_cons hlt
            have HD := hide hd
            have HK := hide hk
            obtain ⟨kd2, i2, b2, ao2, len2, cap2, rfl, rfl, rfl, rfl⟩ := hk.cells
            clear k0 k1 k2 k3 hk hd
            go_wp2_with fail
            refine (IH.out (l[j]) _ _ _ _ m _ (HK.out.keep (gr_alloc HGR.out _)) hm).mono ?_
            rintro e w2 ⟨rfl, g2⟩
            have G2 := hide (gr_none (gr_alloc HGR.out _) g2)
            have HM := hide (countE_le k n (l[j]) m hm)
            obtain ⟨C, hC⟩ : ∃ C, C = countE k n (l[j]) m := ⟨_, rfl⟩
            rw [← hC]
            have HC := hide hC
            clear g2 hC
            obtain ⟨ca, ce⟩ := C
            by_cases hz2 : ce = 0
            · subst hz2
              go_wp2
              go_roundw
              case rel =>
                refine ⟨j + 1, ca, by omega, ?_, by go_num, rfl, ?_, G2.out⟩
                · have := HM.out
                  rw [← HC.out] at this
                  exact this
                · have := HF.out
                  rw [HD.out, cntL, ← HC.out] at this
                  simpa using this
              case measure => simp [intOf]; omega
            · have hz2' := ne_beq hz2
              have HZ := hide hz2
              have e : R = (0, ce) := by
                have := HF.out
                rw [HD.out, cntL, ← HC.out, if_neg hz2] at this
                exact this.symm
              subst e
              clear hz2
              go_wp2
              go_ret2
              exact ⟨rfl, G2.out⟩
          · obtain rfl : j = l.length := by omega
            have e : R = (m, 0) := by
              have := HF.out
              rw [List.drop_length, cntL] at this
              exact this.symm
            subst e
            go_wp2
            go_ret2
            exact ⟨rfl, HGR.out⟩
    · have hz' := ne_beq hz
      have e : R = (0, x) := by rw [HR2.out, if_neg hz]
      subst e
      clear hz
      go_wp2
      go_ret2
      exact ⟨rfl, G1.out⟩

/-- Check's answer. -/
def checkE (n : Nat) (t : Ex n) (k : Int) : Int := if k < 0 ∨ 6 < k then 10 else (countE k n t 0).2

set_option maxHeartbeats 1000000 in
theorem check_at (k : Int) (n : Nat) (t : Ex n) (c0 c1 c2 c3 : Value) (w : World) (hw : WayC w n c0 c1 c2 c3 t) :
    Calls Try.prog 10 #[.agg #[c0, c1, c2, c3], .int .i64 k] w fun e w' => e = .returned (.int .i64 (checkE n t k)) ∧ w.grownBy w' none := by
  have HW := hide hw
  obtain ⟨kd, i, b, ao, len, cap, rfl, rfl, rfl, rfl⟩ := hw.cells
  clear hw
  by_cases h1 : k < 0
  · have e : checkE n t k = 10 := by unfold checkE; rw [if_pos (.inl h1)]
    rw [e]
    go_enter Try.func10, Try.ntmps10
    go_wp2
    go_ret
    exact ⟨rfl, gr_alloc (gr_refl _ _) _⟩
  · have h1' : decide (k < 0) = false := by simpa using h1
    by_cases h2 : 6 < k
    · have e : checkE n t k = 10 := by unfold checkE; rw [if_pos (.inr h2)]
      rw [e]
      go_enter Try.func10, Try.ntmps10
      go_wp2
      go_ret
      exact ⟨rfl, gr_alloc (gr_refl _ _) _⟩
    · have h2' : decide (6 < k) = false := by simpa using h2
      have e : checkE n t k = (countE k n t 0).2 := by unfold checkE; rw [if_neg (by omega)]
      rw [e]
      obtain ⟨C, hC⟩ : ∃ C, C = countE k n t 0 := ⟨_, rfl⟩
      have HC := hide hC
      rw [← hC]
      clear hC e
      go_enter Try.func10, Try.ntmps10
      go_wp2_with fail
      refine (count_at k n t _ _ _ _ 0 _ (HW.out.keep (gr_alloc (gr_refl _ _) _)) (by omega)).mono ?_
      rintro e w1 ⟨rfl, g1⟩
      have G1 := hide (gr_none (gr_alloc (gr_refl w none) _) g1)
      rw [← HC.out]
      clear g1
      go_wp2
      go_ret
      exact ⟨rfl, G1.out⟩
end Go.Proofs.Ytidnhafllbckcaa
