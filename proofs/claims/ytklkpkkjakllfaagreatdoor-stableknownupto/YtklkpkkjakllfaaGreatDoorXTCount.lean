/- stable: Count. -/
import Derived.Test.YtklkpkkjakllfaaGreatDoorXTa
set_option linter.unusedVariables false
set_option linter.unusedSimpArgs false
set_option maxHeartbeats 8000000
set_option maxRecDepth 10000
namespace Go.Proofs.YtklkpkkjakllfaaGreatDoor
open Go.RowKit
def CntV (p : Nat → Rat) (n : Nat) (a b c : Int) : Prop :=
  ∃ (m : Nat) (u r : Int) (s : Nat → Rat) (d : Nat) (k l : Rat), PL (halfP p n 1) m ∧ 0 < k ∧ 0 < l ∧ Jmp (fun i => k * halfP p n 0 i) n (fun i => l * halfP p n 1 i) m u s d ∧ RRt s d r ∧
    a = ((n : Int) - 1 - r + u).tdiv 2 ∧ b = r ∧ c = ((n : Int) - 1 - r - u).tdiv 2
def CntE (w : World) (ls : List ByteArray) (e : Ending) (w' : World) : Prop :=
  w.grownBy w' none ∧ ∃ a b c f : Int, e = .returned (.tuple #[.int .i64 a, .int .i64 b, .int .i64 c, .int .i64 f]) ∧
    ((13 < ls.length ∧ f = 2) ∨ (ls.length ≤ 13 ∧ PL (polyQ ls) 0 ∧ f = 9) ∨ (ls.length ≤ 13 ∧ ∃ n, 0 < n ∧ n ≤ 13 ∧ PL (polyQ ls) n ∧ f = 0 ∧ CntV (polyQ ls) n a b c))
theorem tdiv_small {x : Int} (h1 : -1000 ≤ x) (h2 : x ≤ 1000) : -1000 ≤ x.tdiv 2 ∧ x.tdiv 2 ≤ 1000 := by
  rcases Int.le_total 0 x with h | h
  · rw [Int.tdiv_eq_ediv_of_nonneg h]
    omega
  · obtain ⟨y, rfl⟩ : ∃ y, x = -y := ⟨-x, by omega⟩
    rw [Int.neg_tdiv, Int.tdiv_eq_ediv_of_nonneg (by omega)]
    omega
theorem count_at (v : Value) (ls : List ByteArray) (L0 L : Nat) (w : World) (hl : RowG sv w v ls) (hml : MLen w) (hs : ls.length ≤ 13 → ∀ i (h : i < ls.length), (ls[i]).size ≤ 600000000 ∧ (ls[i]).size + 1 ≤ L ∧ (ls[i]).size / 8 + 2 ≤ L0) (hL0 : 1 ≤ L0) (hL : L ≤ 1000000000000) (hV : vB (14 * L0) 1 ≤ L) :
    Calls Tryz.prog 13 #[v] w fun e w' => CntE w ls e w' := by
  have HL := hide hl
  have HS := hide hs
  have HM := hide hml
  have HV := hide hV
  have hL1 : 1 ≤ L := Nat.le_trans (Nat.le_trans (by decide) (vB_pos (14 * L0) 1)) hV
  have hL2 : 14 * L0 + 3 ≤ L := Nat.le_trans (vB_self (14 * L0) 1) hV
  obtain ⟨ao, cap, rfl, hc, hm, _⟩ := hl
  clear hs hml hV
  go_enter Tryz.func13, Tryz.ntmps13
  go_wp2_with fail
  refine (read_at _ ls L w HL.out (fun h i hi => ⟨(HS.out h i hi).1, (HS.out h i hi).2.1⟩) HM.out).mono ?_
  rintro e w1 ⟨g1, hcase⟩
  have G1 := hide g1
  clear g1
  rcases hcase with ⟨hbig, rfl⟩ | ⟨hsm, hz, rfl⟩ | ⟨hsm, v1, n, hn0, hn13, hp, hr, rfl⟩
  · go_wp2
    refine bodyPost_ret (v := .tuple #[.int .i64 0, .int .i64 0, .int .i64 0, .int .i64 2]) (by simp [results, Tryz.results13, go_sem]) rfl ?_
    exact ⟨G1.out, 0, 0, 0, 2, rfl, .inl ⟨hbig, rfl⟩⟩
  · have HZ := hide hz
    clear hz
    go_wp2
    refine bodyPost_ret (v := .tuple #[.int .i64 0, .int .i64 0, .int .i64 0, .int .i64 9]) (by simp [results, Tryz.results13, go_sem]) rfl ?_
    exact ⟨G1.out, 0, 0, 0, 9, rfl, .inr (.inl ⟨hsm, HZ.out, rfl⟩)⟩
  · have HP := hide hp
    have HR := hide hr
    have HSM := hide hsm
    have FIT : Hid (∀ i, FitW L0 (polyQ ls i)) := polyQ_fit hL0 (fun i hi => (HS.out hsm i hi).2.2)
    obtain ⟨o1, c1, rfl, _, hm1, _⟩ := hr
    unfold maxLen at hm1
    clear hp hsm HL HS HM
    have P0 := hide (PL_half0 HP.out hn0)
    have FH : Hid (∀ odd i, FitW L0 (halfP (polyQ ls) n odd i)) := fun odd i => half_fit hL0 FIT.out i
    go_wp2_with fail
    refine (along_at _ n (polyQ ls) L w1 HR.out (by omega)).mono ?_
    rintro e w2 ⟨v2, v3, m1, m2, rfl, q1, q2, q3, q4, q5⟩
    have em : n = m1 := PL_uniq P0.out q2
    subst em
    have hm2 := half1_len hn0 q4
    have R1 := hide q1
    have R2 := hide q3
    have P1 := hide q4
    have G2 := hide (gr_none G1.out q5)
    obtain ⟨o2, c2, rfl, _, _, _⟩ := q1
    obtain ⟨o3, c3, rfl, _, _, _⟩ := q3
    clear q2 q4 q5
    go_wp2_with fail
    refine (jumps_at _ _ n m2 (halfP (polyQ ls) n 0) (halfP (polyQ ls) n 1) (14 * L0) (14 * L0) (14 * L0) L w2 R1.out R2.out P0.out P1.out hm2 hn13 hL HV.out (fun i hi => shr_first hn13 (FH.out 0) (by omega) i hi) (fun i _ => (plain_first P0.out hn13 (FH.out 0)).fit (by omega) hL1 i)
      (fun i hi => shr_first (by omega : m2 ≤ 13) (FH.out 1) (by omega) i hi) (fun i _ => (plain_first P1.out (by omega) (FH.out 1)).fit (by omega) hL1 i) (plain_first P0.out hn13 (FH.out 0)) (vB_self _ _) (plain_first P1.out (by omega) (FH.out 1)) (by have := vB_self (14 * L0) n; omega)).mono ?_
    rintro e w3 ⟨u, v4, s, d, ms, rfl, q1, q2, q3, q4, q5, q6, q7, q8, q9, q10, q11⟩
    have R3 := hide q1
    have P3 := hide q2
    have W3 := hide q6
    have M3 := hide q7
    have J3 := hide q10
    have G3 := hide (gr_none G2.out q11)
    obtain ⟨o4, c4, rfl, _, _, _⟩ := q1
    clear q2 q5 q6 q7 q10 q11
    go_wp2_with fail
    refine (rroots_at _ d s ms (14 * L0) L w3 R3.out P3.out q3 (by omega) hL HV.out W3.out M3.out).mono ?_
    rintro e w4 ⟨r, rfl, k1, k2, k3, k4⟩
    have K1 := hide k1
    have G4 := hide (gr_none G3.out k4)
    clear k1 k4
    have t1 := tdiv_small (x := (n : Int) - 1 - r + u) (by omega) (by omega)
    have t2 := tdiv_small (x := (n : Int) - 1 - r - u) (by omega) (by omega)
    go_wp2
    refine bodyPost_ret (v := .tuple #[.int .i64 (((n : Int) - 1 - r + u).tdiv 2), .int .i64 r, .int .i64 (((n : Int) - 1 - r - u).tdiv 2), .int .i64 0]) (by simp [results, Tryz.results13, go_sem]) rfl ?_
    obtain ⟨k, hk, e1⟩ := plain_scale P0.out
    obtain ⟨l, hl, e2⟩ := plain_scale P1.out
    have hj := J3.out
    rw [e1, e2] at hj
    exact ⟨G4.out, _, _, _, _, rfl, .inr (.inr ⟨HSM.out, n, hn0, hn13, HP.out, rfl, m2, u, r, s, d, k, l, P1.out, hk, hl, hj, K1.out, rfl, rfl, rfl⟩)⟩
end Go.Proofs.YtklkpkkjakllfaaGreatDoor
