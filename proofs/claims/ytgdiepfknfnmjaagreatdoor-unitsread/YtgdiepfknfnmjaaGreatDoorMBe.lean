/- voltaicbig: Rat's norm. -/
import Derived.Test.YtgdiepfknfnmjaaGreatDoorMBd
import Derived.Deep.RegionHeld3
namespace Go.Proofs.YtgdiepfknfnmjaaGreatDoor
open Go.RowKit
set_option linter.unusedVariables false

/-- w' is w with new blocks, and with writes to block b. -/
structure RPut (w w' : World) (b : Nat) : Prop where
  gr : w.grownBy w' (some b)
  rest : b < w.heap.size → ∀ o, 4 ≤ o → w'.cell? ⟨b, o, none⟩ = w.cell? ⟨b, o, none⟩

theorem RPut.of_put {w w' : World} {b off : Nat} (h : Put w w' b off) (ho : off ≤ 2 := by decide) : RPut w w' b := ⟨h.gr, fun _ o h4 => h.rest o (by omega) (by omega)⟩
theorem RPut.of_gr {w w' : World} {b : Nat} (h : w.grownBy w' none) : RPut w w' b := ⟨⟨h.os, h.tape, h.output, h.size, fun k hk _ => h.block k hk (by simp)⟩, fun hb o _ => World.cell?_of_block (h.block b hb (by simp))⟩
theorem RPut.trans {w w1 w2 : World} {b : Nat} (h : RPut w w1 b) (k : RPut w1 w2 b) : RPut w w2 b := ⟨gr_trans h.gr k.gr (fun _ _ e => e) (fun _ _ e => e), fun hb o h4 => (k.rest (Nat.lt_of_lt_of_le hb h.gr.size) o h4).trans (h.rest hb o h4)⟩

theorem num_zero {w : World} {v : Value} {n L : Nat} (h : Num w v n L) : ∃ ao l ca, v = .slice ao l ca ∧ (l = 0 ↔ n = 0) ∧ l ≤ L ∧ l ≤ ca ∧ ca ≤ 9223372036854775807 ∧ (l = 1 → ∃ b off, ao = some ⟨b, off, none⟩ ∧ w.cell? ⟨b, off, none⟩ = some (.int .u32 (n : Nat))) ∧ (n = 1 → l = 1) := by
  obtain ⟨xs, x1, x2, x3, x4⟩ := h
  obtain ⟨ao, ca, rfl, h1, h2, h3⟩ := x1.open
  refine ⟨ao, xs.length, ca, rfl, ?_, x4, h1, by unfold maxLen at h2; omega, ?_, ?_⟩
  · constructor
    · intro h
      have : xs = [] := List.eq_nil_of_length_eq_zero h
      rw [this] at x3; simpa [val] using x3.symm
    · intro h
      rcases Nat.eq_zero_or_pos xs.length with h' | h'
      · exact h'
      · have := tr_ge x2 (by intro e; rw [e] at h'; simp at h')
        have p3 : 0 < 4294967296 ^ (xs.length - 1) := Nat.pow_pos (by decide)
        omega
  · intro h
    obtain ⟨b, off, e, hb, hc⟩ := h3 0 (by omega)
    refine ⟨b, off, e, ?_⟩
    obtain ⟨x, rfl⟩ := List.length_eq_one_iff.1 h
    simp only [Nat.add_zero, List.getElem_cons_zero] at hc
    rw [hc, ← x3]
    simp [val]
  · intro h
    have hne : xs ≠ [] := by intro e; rw [e] at x3; simp [val] at x3; omega
    have h1 := tr_ge x2 hne
    rw [x3, h] at h1
    have h2 : xs.length - 1 = 0 := by
      rcases Nat.eq_zero_or_pos (xs.length - 1) with h' | h'
      · exact h'
      · have : 4294967296 ^ 1 ≤ 4294967296 ^ (xs.length - 1) := Nat.pow_le_pow_right (by decide) h'
        omega
    have h3 : 0 < xs.length := by
      cases xs with
      | nil => exact absurd rfl hne
      | cons x r => simp
    omega

theorem gcd_div (x : Int) (y G : Nat) (hG : G = Nat.gcd x.natAbs y) (hx : x ≠ 0) (hy : 0 < y) : (x / (G : Nat)).natAbs = x.natAbs / G ∧ decide (x / (G : Nat) < 0) = decide (x < 0) := by
  have h0 : 0 < G := by rw [hG]; exact Nat.gcd_pos_of_pos_right _ hy
  obtain ⟨k, hk⟩ : G ∣ x.natAbs := by rw [hG]; exact Nat.gcd_dvd_left _ _
  have hk0 : 0 < k := by
    rcases Nat.eq_zero_or_pos k with e | e
    · rw [e, Nat.mul_zero] at hk; omega
    · exact e
  have hG' : (G : Int) ≠ 0 := by omega
  rw [hk, Nat.mul_div_cancel_left k h0]
  by_cases hneg : x < 0
  · have e : x = (G : Int) * (-(k : Int)) := by
      have : (x.natAbs : Int) = (G : Int) * (k : Int) := by rw [hk, Int.natCast_mul]
      rw [Int.mul_neg]
      omega
    rw [e, Int.mul_ediv_cancel_left _ hG']
    refine ⟨by omega, ?_⟩
    rw [← e, decide_eq_true hneg]
    exact decide_eq_true (by omega)
  · have e : x = (G : Int) * (k : Int) := by
      have : (x.natAbs : Int) = (G : Int) * (k : Int) := by rw [hk, Int.natCast_mul]
      omega
    rw [e, Int.mul_ediv_cancel_left _ hG']
    refine ⟨by omega, ?_⟩
    rw [← e, decide_eq_false hneg]
    exact decide_eq_false (by omega)

theorem norm_end (b : Nat) (x : Int) (y G L M : Nat) (w w1 w2 w3 : World) (na : Bool) {va vb : Value} (p q : Value) (hG : G = Nat.gcd x.natAbs y) (hx : x ≠ 0) (hy : 0 < y) (hna : na = decide (x < 0))
    (g1 : w.grownBy w1 none) (g2 : w1.grownBy w2 none) (g3 : w2.grownBy w3 none) (t1 : Box w3 b 0 na va) (t2 : Box w3 b 2 false vb) (n1 : Num w2 p (x.natAbs / G) (L + 2)) (n2 : Num w3 q (y / G) (M + 2)) (f1 : Fresh w1 p) (f2 : Fresh w2 q) (hb : b < w.heap.size) :
    RPut w ((w3.setCell ⟨b, 1, none⟩ p).setCell ⟨b, 3, none⟩ q) b ∧ IntAt ((w3.setCell ⟨b, 1, none⟩ p).setCell ⟨b, 3, none⟩ q) b 0 (x / (G : Nat)) (L + 2) ∧ IntAt ((w3.setCell ⟨b, 1, none⟩ p).setCell ⟨b, 3, none⟩ q) b 2 (y / G : Nat) (M + 2) := by
  obtain ⟨d1, d2⟩ := gcd_div x y G hG hx hy
  have P1 : Put w3 (w3.setCell ⟨b, 1, none⟩ p) b 0 := Put.set _ (.inr rfl)
  have P2 : Put (w3.setCell ⟨b, 1, none⟩ p) ((w3.setCell ⟨b, 1, none⟩ p).setCell ⟨b, 3, none⟩ q) b 2 := Put.set _ (.inr rfl)
  have hpb : blockOf p ≠ some b := fun e => by have := f1 b e; have := g1.size; omega
  have hqb : blockOf q ≠ some b := fun e => by have := f2 b e; have := g1.size; have := g2.size; omega
  have gg : w.grownBy w3 none := gr_none (gr_none g1 g2) g3
  refine ⟨(RPut.of_gr gg).trans ((RPut.of_put P1).trans (RPut.of_put P2)), ?_, ?_⟩
  · refine ⟨na, p, ?_, ?_, by rw [hna, d2], hpb⟩
    · have c1 : (w3.setCell ⟨b, 1, none⟩ p).cell? ⟨b, 1, none⟩ = some p := World.cell?_setCell_same _ _ _ t1.c1
      have c0 : (w3.setCell ⟨b, 1, none⟩ p).cell? ⟨b, 0, none⟩ = some (.bool na) := by
        rw [World.cell?_setCell_other _ _ _ _ (by simp)]
        exact t1.c0
      exact Box.keep ⟨c0, c1, (P1.fr 0).trans t1.f0, (P1.fr 1).trans t1.f1⟩ P2 (.inr (.inl (by omega)))
    · rw [d1]
      exact ((n1.keep0 g3).keep P1.gr (fun k e h => by cases e; exact hpb h)).keep P2.gr (fun k e h => by cases e; exact hpb h)
  · refine ⟨false, q, ?_, ?_, (decide_eq_false (Int.not_lt.2 (Int.natCast_nonneg _))).symm, hqb⟩
    · have t2' : Box (w3.setCell ⟨b, 1, none⟩ p) b 2 false vb := t2.keep P1 (.inr (.inr (by omega)))
      refine ⟨?_, World.cell?_setCell_same _ _ _ t2'.c1, (P2.fr 2).trans t2'.f0, (P2.fr 3).trans t2'.f1⟩
      rw [World.cell?_setCell_other _ _ _ _ (by simp)]
      exact t2'.c0
    · rw [Int.natAbs_natCast]
      exact (n2.keep P1.gr (fun k e h => by cases e; exact hqb h)).keep P2.gr (fun k e h => by cases e; exact hqb h)

set_option maxHeartbeats 2000000 in
/-- norm, where the lower part is above 0 and so is the size of the upper one. -/
theorem norm_pos (b : Nat) (x : Int) (y L M : Nat) (w : World) (hA : IntAt w b 0 x L) (hB : IntAt w b 2 (y : Int) M) (hx : x ≠ 0) (hy : 0 < y) (hL : L ≤ 400000000) (hM : M ≤ 400000000) :
    Calls Tryz.prog 97 #[.pointer (some ⟨b, 0, none⟩)] w fun e w' => e = .returned (.pointer (some ⟨b, 0, none⟩)) ∧ RPut w w' b ∧ IntAt w' b 0 (x / (Nat.gcd x.natAbs y : Nat)) (L + 2) ∧ IntAt w' b 2 (y / Nat.gcd x.natAbs y : Nat) (M + 2) := by
  have HA := hide hA
  have HB := hide hB
  obtain ⟨na, va, a1, a2, a3, a4⟩ := hA
  obtain ⟨nb, vb, b1, b2, b3, b4⟩ := hB
  rw [Int.natAbs_natCast] at b2
  have nbf : nb = false := by rw [b3]; simp
  subst nbf
  have c0 := a1.c0
  have c1 := a1.c1
  have d0 := b1.c0
  have d1 := b1.c1
  obtain ⟨ao, la, ca, rfl, z1, z2, z3, z4, z5, z6⟩ := num_zero a2
  obtain ⟨bo, lb, cb, rfl, y1, y2, y3, y4, y5, y6⟩ := num_zero b2
  have hla : ((la : Int) == 0) = false := beq_eq_false_iff_ne.2 (by omega)
  have hlb : ((lb : Int) == 0) = false := beq_eq_false_iff_ne.2 (by omega)
  have A1 := hide a1
  have A2 := hide a2
  have A3 := hide a3
  have A4 := hide a4
  have B1 := hide b1
  have B2 := hide b2
  have B4 := hide b4
  clear a1 a2 a3 a4 b1 b2 b3 b4 z1 z5 z6 y1
  by_cases hy1 : y = 1
  · subst hy1
    have hl1 : ((lb : Int) == 1) = true := beq_iff_eq.2 (by have := y6 rfl; omega)
    obtain ⟨vbb, voff, rfl, hvc⟩ := y5 (y6 rfl)
    have hlb1 := y6 rfl
    clear y5 y6
    go_enter Tryz.func97, Tryz.ntmps97
    go_wp2
    go_ret
    refine ⟨rfl, RPut.of_gr (gr_refl _ _), ?_, ?_⟩
    · rw [Nat.gcd_one_right]; simpa using HA.out.mono (by omega)
    · rw [Nat.gcd_one_right]; simpa using HB.out.mono (by omega)
  · have hpk : Hid (0 < x.natAbs) := by show 0 < x.natAbs; omega
    have hya : ∃ Gv : Nat, Gv = Nat.gcd x.natAbs y := ⟨_, rfl⟩
    obtain ⟨G, hG⟩ := hya
    rw [← hG]
    have HG := hide hG
    clear hG
    have tst : ((lb : Int) == 1) = false ∨ (((lb : Int) == 1) = true ∧ ∃ vbb voff, bo = some ⟨vbb, voff, none⟩ ∧ w.cell? ⟨vbb, voff, none⟩ = some (.int .u32 (y : Nat)) ∧ (((y : Nat) : Int) == 1) = false ∧ 1 ≤ lb) := by
      by_cases h : lb = 1
      · obtain ⟨vbb, voff, e1, e2⟩ := y5 h
        exact .inr ⟨beq_iff_eq.2 (by omega), vbb, voff, e1, e2, beq_eq_false_iff_ne.2 (by omega), by omega⟩
      · exact .inl (beq_eq_false_iff_ne.2 (by omega))
    clear y5 y6
    rcases tst with hl1 | ⟨hl1, vbb, voff, rfl, hvc, hy1', hlb1⟩
    · skip
      go_enter Tryz.func97, Tryz.ntmps97
      go_wp2
      go_region_held3 (fun w' => w'.cell? ⟨b, 1, none⟩ = some (.slice ao la ca) ∧ w'.cell? ⟨b, 3, none⟩ = some (.slice bo lb cb)) (go_keep)
        (first | (go_at_call 138; refine (common_num _ _ _ _ L M _ (A2.out.keep0 (gr_dn _)) (B2.out.keep0 (gr_dn _)) hpk.out (by omega) (by omega)).mono ?_; rintro e w1 ⟨g, rfl, k1, k2⟩; have q1 := (A1.out.keep0 (gr_none (gr_dn _) k2)).c1; have q3 := (B1.out.keep0 (gr_none (gr_dn _) k2)).c1))
      have g2 := gr_none (gr_dn _) k2
      rw [← HG.out] at k1
      have hG0 : 0 < G := by rw [HG.out]; exact Nat.gcd_pos_of_pos_right _ hy
      obtain ⟨go, lg, cg, rfl, m1, m2, m3, m4, m5, m6⟩ := num_zero k1
      have e1 := A1.out.keep0 g2
      have e2 := B1.out.keep0 g2
      have f1 := e1.f1
      have f3 := e2.f1
      have E1 := hide e1
      have E2 := hide e2
      have K1 := hide k1
      have G2 := hide g2
      have N1 := hide (A2.out.keep0 g2)
      have N2 := hide (B2.out.keep0 g2)
      clear k1 k2 g2 e1 e2 c0 c1 d0 d1
      by_cases hG1 : G = 1
      · have hlg := m6 hG1
        have hl2 : ((lg : Int) == 1) = true := beq_iff_eq.2 (by omega)
        obtain ⟨gb, goff, rfl, hgc⟩ := m5 hlg
        have hgv : (((G : Nat) : Int) == 1) = true := beq_iff_eq.2 (by omega)
        have HG1 := hide hG1
        have hlg1 : 1 ≤ lg := by omega
        clear m1 m5 m6 hlg hG1
        go_wp2
        go_ret
        refine ⟨rfl, RPut.of_gr G2.out, ?_, ?_⟩
        · rw [HG1.out]; simpa using (HA.out.keep0 G2.out).mono (by omega)
        · rw [HG1.out]; simpa using (HB.out.keep0 G2.out).mono (by omega)
      · have tst2 : ((lg : Int) == 1) = false ∨ (((lg : Int) == 1) = true ∧ ∃ gb goff, go = some ⟨gb, goff, none⟩ ∧ w1.cell? ⟨gb, goff, none⟩ = some (.int .u32 (G : Nat)) ∧ (((G : Nat) : Int) == 1) = false ∧ 1 ≤ lg) := by
          by_cases h : lg = 1
          · obtain ⟨gb, goff, e1, e2⟩ := m5 h
            exact .inr ⟨beq_iff_eq.2 (by omega), gb, goff, e1, e2, beq_eq_false_iff_ne.2 (by omega), by omega⟩
          · exact .inl (beq_eq_false_iff_ne.2 (by omega))
        clear m1 m5 m6
        rcases tst2 with hl2 | ⟨hl2, gb, goff, rfl, hgc, hgv, hlg1⟩
        all_goals
          go_wp2_with fail
          refine (div_num _ _ _ _ L (max L M + 2) _ N1.out K1.out hG0 (by omega) (by omega)).mono ?_
          rintro e w2 ⟨p, r1, rfl, p1, p2, p3, p4, p5⟩
          obtain ⟨po, lp, cp, rfl, _, _, _, _, _, _⟩ := num_zero p1
          have u1 := E1.out.keep0 p3
          have u2 := E2.out.keep0 p3
          have s1 := u1.c1
          have s2 := u2.c1
          have s3 := u1.f1
          have s4 := u2.f1
          have P1 := hide p1
          have P3 := hide p3
          have P4 := hide p4
          clear p1 p2 p3 p4 p5 q1 q3 f1 f3
          go_wp2_with fail
          refine (div_num _ _ _ _ M (max L M + 2) _ (N2.out.keep0 P3.out) (K1.out.keep0 P3.out) hG0 (by omega) (by omega)).mono ?_
          rintro e w3 ⟨q, r2, rfl, p1, p2, p3, p4, p5⟩
          obtain ⟨qo, lq, cq, rfl, _, _, _, _, _, _⟩ := num_zero p1
          have t1 := u1.keep0 p3
          have t2 := u2.keep0 p3
          have v1 := t1.c1
          have v2 := t2.c1
          have v3 := t1.f1
          have v4 := t2.f1
          have Q1 := hide p1
          have Q3 := hide p3
          have Q4 := hide p4
          have T1 := hide t1
          have T2 := hide t2
          clear p1 p2 p3 p4 p5 s1 s2 s3 s4 u1 u2 t1 t2
          go_wp2
          go_ret
          exact ⟨rfl, norm_end b x y G L M w w1 w2 w3 na (.slice po lp cp) (.slice qo lq cq) HG.out hx hy A3.out G2.out P3.out Q3.out T1.out T2.out P1.out Q1.out P4.out Q4.out (A1.out.lt)⟩
    · skip
      go_enter Tryz.func97, Tryz.ntmps97
      go_wp2
      go_region_held3 (fun w' => w'.cell? ⟨b, 1, none⟩ = some (.slice ao la ca) ∧ w'.cell? ⟨b, 3, none⟩ = some (.slice (some ⟨vbb, voff, none⟩) lb cb)) (go_keep)
        (first | (go_at_call 138; refine (common_num _ _ _ _ L M _ (A2.out.keep0 (gr_dn _)) (B2.out.keep0 (gr_dn _)) hpk.out (by omega) (by omega)).mono ?_; rintro e w1 ⟨g, rfl, k1, k2⟩; have q1 := (A1.out.keep0 (gr_none (gr_dn _) k2)).c1; have q3 := (B1.out.keep0 (gr_none (gr_dn _) k2)).c1))
      have g2 := gr_none (gr_dn _) k2
      rw [← HG.out] at k1
      have hG0 : 0 < G := by rw [HG.out]; exact Nat.gcd_pos_of_pos_right _ hy
      obtain ⟨go, lg, cg, rfl, m1, m2, m3, m4, m5, m6⟩ := num_zero k1
      have e1 := A1.out.keep0 g2
      have e2 := B1.out.keep0 g2
      have f1 := e1.f1
      have f3 := e2.f1
      have E1 := hide e1
      have E2 := hide e2
      have K1 := hide k1
      have G2 := hide g2
      have N1 := hide (A2.out.keep0 g2)
      have N2 := hide (B2.out.keep0 g2)
      clear k1 k2 g2 e1 e2 c0 c1 d0 d1
      by_cases hG1 : G = 1
      · have hlg := m6 hG1
        have hl2 : ((lg : Int) == 1) = true := beq_iff_eq.2 (by omega)
        obtain ⟨gb, goff, rfl, hgc⟩ := m5 hlg
        have hgv : (((G : Nat) : Int) == 1) = true := beq_iff_eq.2 (by omega)
        have HG1 := hide hG1
        have hlg1 : 1 ≤ lg := by omega
        clear m1 m5 m6 hlg hG1
        go_wp2
        go_ret
        refine ⟨rfl, RPut.of_gr G2.out, ?_, ?_⟩
        · rw [HG1.out]; simpa using (HA.out.keep0 G2.out).mono (by omega)
        · rw [HG1.out]; simpa using (HB.out.keep0 G2.out).mono (by omega)
      · have tst2 : ((lg : Int) == 1) = false ∨ (((lg : Int) == 1) = true ∧ ∃ gb goff, go = some ⟨gb, goff, none⟩ ∧ w1.cell? ⟨gb, goff, none⟩ = some (.int .u32 (G : Nat)) ∧ (((G : Nat) : Int) == 1) = false ∧ 1 ≤ lg) := by
          by_cases h : lg = 1
          · obtain ⟨gb, goff, e1, e2⟩ := m5 h
            exact .inr ⟨beq_iff_eq.2 (by omega), gb, goff, e1, e2, beq_eq_false_iff_ne.2 (by omega), by omega⟩
          · exact .inl (beq_eq_false_iff_ne.2 (by omega))
        clear m1 m5 m6
        rcases tst2 with hl2 | ⟨hl2, gb, goff, rfl, hgc, hgv, hlg1⟩
        all_goals
          go_wp2_with fail
          refine (div_num _ _ _ _ L (max L M + 2) _ N1.out K1.out hG0 (by omega) (by omega)).mono ?_
          rintro e w2 ⟨p, r1, rfl, p1, p2, p3, p4, p5⟩
          obtain ⟨po, lp, cp, rfl, _, _, _, _, _, _⟩ := num_zero p1
          have u1 := E1.out.keep0 p3
          have u2 := E2.out.keep0 p3
          have s1 := u1.c1
          have s2 := u2.c1
          have s3 := u1.f1
          have s4 := u2.f1
          have P1 := hide p1
          have P3 := hide p3
          have P4 := hide p4
          clear p1 p2 p3 p4 p5 q1 q3 f1 f3
          go_wp2_with fail
          refine (div_num _ _ _ _ M (max L M + 2) _ (N2.out.keep0 P3.out) (K1.out.keep0 P3.out) hG0 (by omega) (by omega)).mono ?_
          rintro e w3 ⟨q, r2, rfl, p1, p2, p3, p4, p5⟩
          obtain ⟨qo, lq, cq, rfl, _, _, _, _, _, _⟩ := num_zero p1
          have t1 := u1.keep0 p3
          have t2 := u2.keep0 p3
          have v1 := t1.c1
          have v2 := t2.c1
          have v3 := t1.f1
          have v4 := t2.f1
          have Q1 := hide p1
          have Q3 := hide p3
          have Q4 := hide p4
          have T1 := hide t1
          have T2 := hide t2
          clear p1 p2 p3 p4 p5 s1 s2 s3 s4 u1 u2 t1 t2
          go_wp2
          go_ret
          exact ⟨rfl, norm_end b x y G L M w w1 w2 w3 na (.slice po lp cp) (.slice qo lq cq) HG.out hx hy A3.out G2.out P3.out Q3.out T1.out T2.out P1.out Q1.out P4.out Q4.out (A1.out.lt)⟩
end Go.Proofs.YtgdiepfknfnmjaaGreatDoor

namespace Go.Proofs.YtgdiepfknfnmjaaGreatDoor
open Go.RowKit
set_option linter.unusedVariables false

set_option maxHeartbeats 2000000 in
theorem norm_zero (b : Nat) (y L M : Nat) (w : World) (hA : IntAt w b 0 0 L) (hB : IntAt w b 2 (y : Int) M) (hy : 0 < y) :
    Calls Tryz.prog 97 #[.pointer (some ⟨b, 0, none⟩)] w fun e w' => e = .returned (.pointer (some ⟨b, 0, none⟩)) ∧ RPut w w' b ∧ IntAt w' b 0 0 L ∧ IntAt w' b 2 1 2 := by
  have HA := hide hA
  obtain ⟨na, va, a1, a2, a3, a4⟩ := hA
  obtain ⟨nb, vb, b1, b2, b3, b4⟩ := hB
  rw [Int.natAbs_natCast] at b2
  have nbf : nb = false := by rw [b3]; simp
  subst nbf
  have c0 := a1.c0
  have c1 := a1.c1
  have d0 := b1.c0
  have d1 := b1.c1
  obtain ⟨ao, la, ca, rfl, z1, z2, z3, z4, z5, z6⟩ := num_zero a2
  obtain ⟨bo, lb, cb, rfl, y1, y2, y3, y4, y5, y6⟩ := num_zero b2
  have hla : ((la : Int) == 0) = true := beq_iff_eq.2 (by have := z1.2 rfl; omega)
  have hlb : ((lb : Int) == 0) = false := beq_eq_false_iff_ne.2 (by omega)
  have A1 := hide a1
  have A2 := hide a2
  have A4 := hide a4
  have A3 := hide a3
  have B1 := hide b1
  clear a1 a2 a3 a4 b1 b2 b3 b4 z1 z5 z6 y1 y5 y6
  go_enter Tryz.func97, Tryz.ntmps97
  go_wp2_with fail
  refine (setInt64_at b 2 false (.slice bo lb cb) 1 _ B1.out (by omega) (by omega)).mono ?_
  rintro e w1 ⟨rfl, k1, k2, _⟩
  have K1 := hide k1
  have K2 := hide k2
  clear k1 k2
  go_wp2
  go_ret
  refine ⟨rfl, RPut.of_put K1.out, ?_, K2.out⟩
  exact ⟨na, .slice ao la ca, A1.out.keep K1.out (.inr (.inl (by omega))), A2.out.keep K1.out.gr (fun k e h => by cases e; exact A4.out h), A3.out, A4.out⟩

/-- The ratio x over y lies at block b, in lowest terms. -/
def RatAt (w : World) (b : Nat) (x : Int) (y L : Nat) : Prop := IntAt w b 0 x L ∧ IntAt w b 2 (y : Int) L ∧ 0 < y ∧ Nat.gcd x.natAbs y = 1

/-- Lowest terms. -/
def low1 (x : Int) (y : Nat) : Int := x / (Nat.gcd x.natAbs y : Nat)
def low2 (x : Int) (y : Nat) : Nat := y / Nat.gcd x.natAbs y

theorem low_gcd (x : Int) (y : Nat) (hy : 0 < y) : Nat.gcd (low1 x y).natAbs (low2 x y) = 1 ∧ 0 < low2 x y := by
  have h0 : 0 < Nat.gcd x.natAbs y := Nat.gcd_pos_of_pos_right _ hy
  have hd : 0 < low2 x y := Nat.div_pos (Nat.le_of_dvd hy (Nat.gcd_dvd_right _ _)) h0
  refine ⟨?_, hd⟩
  by_cases hx : x = 0
  · subst hx
    unfold low1 low2
    simp only [Int.natAbs_zero, Nat.gcd_zero_left, Int.zero_ediv]
    exact Nat.div_self hy
  · unfold low1 low2
    rw [(gcd_div x y _ rfl hx hy).1]
    rw [Nat.gcd_div (Nat.gcd_dvd_left _ _) (Nat.gcd_dvd_right _ _)]
    exact Nat.div_self h0

theorem norm_rat (b : Nat) (x : Int) (y L : Nat) (w : World) (hA : IntAt w b 0 x L) (hB : IntAt w b 2 (y : Int) L) (hy : 0 < y) (hL : L ≤ 400000000) :
    Calls Tryz.prog 97 #[.pointer (some ⟨b, 0, none⟩)] w fun e w' => e = .returned (.pointer (some ⟨b, 0, none⟩)) ∧ RPut w w' b ∧ RatAt w' b (low1 x y) (low2 x y) (L + 2) := by
  have hl := low_gcd x y hy
  by_cases hx : x = 0
  · subst hx
    refine (norm_zero b y L L w hA hB hy).mono ?_
    rintro e w' ⟨rfl, k1, k2, k3⟩
    have e1 : low1 0 y = 0 := by simp [low1]
    have e2 : low2 0 y = 1 := by unfold low2; simp only [Int.natAbs_zero, Nat.gcd_zero_left]; exact Nat.div_self hy
    rw [e1, e2]
    exact ⟨rfl, k1, k2.mono (by omega), k3.mono (by omega), by omega, by simp⟩
  · refine (norm_pos b x y L L w hA hB hx hy hL hL).mono ?_
    rintro e w' ⟨rfl, k1, k2, k3⟩
    exact ⟨rfl, k1, k2, k3, hl.2, hl.1⟩

theorem four_set (b : Nat) (x : Int) (y L : Nat) (w : World) (na nb : Bool) (p q : Value) {n1 n2 : Bool} {v1 v2 : Value} (h1 : Box w b 0 n1 v1) (h2 : Box w b 2 n2 v2) (m1 : Num w p x.natAbs L) (m2 : Num w q y L) (hna : na = decide (x < 0)) (hnb : nb = decide ((y : Int) < 0)) (f1 : blockOf p ≠ some b) (f2 : blockOf q ≠ some b) :
    RPut w ((((w.setCell ⟨b, 0, none⟩ (.bool na)).setCell ⟨b, 1, none⟩ p).setCell ⟨b, 2, none⟩ (.bool nb)).setCell ⟨b, 3, none⟩ q) b ∧
    IntAt ((((w.setCell ⟨b, 0, none⟩ (.bool na)).setCell ⟨b, 1, none⟩ p).setCell ⟨b, 2, none⟩ (.bool nb)).setCell ⟨b, 3, none⟩ q) b 0 x L ∧
    IntAt ((((w.setCell ⟨b, 0, none⟩ (.bool na)).setCell ⟨b, 1, none⟩ p).setCell ⟨b, 2, none⟩ (.bool nb)).setCell ⟨b, 3, none⟩ q) b 2 (y : Int) L := by
  have P1 : Put w ((w.setCell ⟨b, 0, none⟩ (.bool na)).setCell ⟨b, 1, none⟩ p) b 0 := (Put.set _ (.inl rfl)).trans (Put.set _ (.inr rfl))
  have P2 : Put ((w.setCell ⟨b, 0, none⟩ (.bool na)).setCell ⟨b, 1, none⟩ p) ((((w.setCell ⟨b, 0, none⟩ (.bool na)).setCell ⟨b, 1, none⟩ p).setCell ⟨b, 2, none⟩ (.bool nb)).setCell ⟨b, 3, none⟩ q) b 2 := (Put.set _ (.inl rfl)).trans (Put.set _ (.inr rfl))
  have b1 : Box ((w.setCell ⟨b, 0, none⟩ (.bool na)).setCell ⟨b, 1, none⟩ p) b 0 na p := by
    refine ⟨?_, ?_, (P1.fr 0).trans h1.f0, (P1.fr 1).trans h1.f1⟩
    · rw [World.cell?_setCell_other _ _ _ _ (by simp)]
      exact World.cell?_setCell_same _ _ _ h1.c0
    · exact World.cell?_setCell_same _ _ _ (by rw [World.cell?_setCell_other _ _ _ _ (by simp)]; exact h1.c1)
  have c2 : Box ((w.setCell ⟨b, 0, none⟩ (.bool na)).setCell ⟨b, 1, none⟩ p) b 2 n2 v2 := h2.keep P1 (.inr (.inr (by omega)))
  refine ⟨(RPut.of_put P1).trans (RPut.of_put P2), ?_, ?_⟩
  · exact ⟨na, p, b1.keep P2 (.inr (.inl (by omega))), (m1.keep P1.gr (fun k e h => by cases e; exact f1 h)).keep P2.gr (fun k e h => by cases e; exact f1 h), hna, f1⟩
  · refine ⟨nb, q, ⟨?_, ?_, (P2.fr 2).trans c2.f0, (P2.fr 3).trans c2.f1⟩, ?_, hnb, f2⟩
    · rw [World.cell?_setCell_other _ _ _ _ (by simp)]
      exact World.cell?_setCell_same _ _ _ c2.c0
    · exact World.cell?_setCell_same _ _ _ (by rw [World.cell?_setCell_other _ _ _ _ (by simp)]; exact c2.c1)
    · rw [Int.natAbs_natCast]
      exact (m2.keep P1.gr (fun k e h => by cases e; exact f2 h)).keep P2.gr (fun k e h => by cases e; exact f2 h)

set_option maxHeartbeats 2000000 in
theorem setFrac_pos (bz ba oa bb ob : Nat) (n1 n2 : Bool) (v1 v2 : Value) (x : Int) (y L : Nat) (w : World) (hz1 : Box w bz 0 n1 v1) (hz2 : Box w bz 2 n2 v2) (hA : IntAt w ba oa x L) (hB : IntAt w bb ob (y : Int) L) (hy : 0 < y) (hL : L ≤ 400000000) :
    Calls Tryz.prog 50 #[.pointer (some ⟨bz, 0, none⟩), .pointer (some ⟨ba, oa, none⟩), .pointer (some ⟨bb, ob, none⟩)] w fun e w' => e = .returned (.pointer (some ⟨bz, 0, none⟩)) ∧ RPut w w' bz ∧ RatAt w' bz (low1 x y) (low2 x y) (L + 2) := by
  have HA := hide hA
  have HB := hide hB
  have Z1 := hide hz1
  have Z2 := hide hz2
  have hzl := hz1.lt
  obtain ⟨nb, vb, b1, b2, b3, b4⟩ := hB
  rw [Int.natAbs_natCast] at b2
  obtain ⟨bo, lb, cb, rfl, y1, y2, y3, y4, y5, y6⟩ := num_zero b2
  have d1 := b1.c1
  have hlb : ((lb : Int) == 0) = false := beq_eq_false_iff_ne.2 (by omega)
  clear b1 b2 b3 b4 y1 y5 y6 hz1 hz2 hA
  go_enter Tryz.func50, Tryz.ntmps50
  go_wp2_with fail
  have g1 := gr_alloc (gr_refl w none) (.cells #[.bool false, .slice none 0 0] 56)
  refine (set_at w.heap.size 0 ba oa false (.slice none 0 0) x L _ (newBox w) (HA.out.keep0 g1) (by omega)).mono ?_
  rintro e w1 ⟨rfl, k1, k2, k4⟩
  have K4 := hide k4
  clear k4
  have G1 := hide (gr_of_put g1 k1 (Nat.le_refl _))
  have K2 := hide k2
  clear k1 k2 g1 d1
  go_wp2_with fail
  have g2 := gr_alloc (gr_refl w1 none) (.cells #[.bool false, .slice none 0 0] 56)
  refine (set_at w1.heap.size 0 bb ob false (.slice none 0 0) (y : Int) L _ (newBox w1) ((HB.out.keep0 G1.out).keep0 g2) (by omega)).mono ?_
  rintro e w2 ⟨rfl, k1, k3, k5⟩
  have K5 := hide k5
  clear k5
  have G2 := hide (gr_of_put g2 k1 (Nat.le_refl _))
  have K3 := hide k3
  clear k1 k3 g2
  have hs1 : w.heap.size < w1.heap.size := K2.out.lt
  obtain ⟨na, va, a1, a2, a3, a4⟩ := K2.out.keep0 G2.out
  obtain ⟨nb', vb', b1, b2, b3, b4⟩ := K3.out
  have z1 := (Z1.out.keep0 G1.out).keep0 G2.out
  have z2 := (Z2.out.keep0 G1.out).keep0 G2.out
  obtain ⟨po, lp, cp, rfl, _, _, _, _, _, _⟩ := num_zero a2
  obtain ⟨qo, lq, cq, rfl, _, _, _, _, _, _⟩ := num_zero b2
  have m0 := a1.c0
  have m1 := a1.c1
  have m2 := b1.c0
  have m3 := b1.c1
  have x0 := z1.c0
  have x1 := z1.c1
  have x2 := z2.c0
  have x3 := z2.c1
  have f0 := z1.f0
  have f1 := z1.f1
  have f2 := z2.f0
  have f3 := z2.f1
  have A1 := hide a1
  have A2 := hide a2
  have A3 := hide a3
  have A4 := hide a4
  have B1 := hide b1
  have B2 := hide b2
  have B3 := hide b3
  have B4 := hide b4
  have ZZ1 := hide z1
  have ZZ2 := hide z2
  clear a1 a2 a3 a4 b1 b2 b3 b4 z1 z2
  simp only [Nat.zero_add] at m0 m1 m2 m3 x0 x1 x2 x3 f0 f1 f2 f3
  have F1 : Hid (blockOf (.slice po lp cp) ≠ some bz) := by
    intro e
    have := K4.out _ (by rw [← A1.out.c1]; exact (World.cell?_of_block (w := w1) (a := ⟨w.heap.size, 0 + 1, none⟩) (G2.out.block _ hs1 (by simp))).symm) bz e
    simp at this
    omega
  have F2 : Hid (blockOf (.slice qo lq cq) ≠ some bz) := by
    intro e
    have := K5.out _ B1.out.c1 bz e
    have h2 := G1.out.size
    simp at this
    omega
  go_wp2_with fail
  obtain ⟨r1, r2, r3⟩ := four_set bz x y L w2 na nb' (.slice po lp cp) (.slice qo lq cq) ZZ1.out ZZ2.out A2.out (by rw [Int.natAbs_natCast] at B2; exact B2.out) A3.out B3.out F1.out F2.out
  refine (norm_rat bz x y L _ r2 r3 hy hL).mono ?_
  rintro e w3 ⟨rfl, k1, k2⟩
  have RR := hide ((RPut.of_gr (gr_none G1.out G2.out)).trans (r1.trans k1))
  have KK := hide k2
  clear r1 r2 r3 k1 k2
  go_wp2
  go_ret
  exact ⟨rfl, RR.out, KK.out⟩
end Go.Proofs.YtgdiepfknfnmjaaGreatDoor
