/- voltaiclaw: SynthBuilds. -/
import Derived.Test.YtbihhkcgiepgaaeGreatDoorYFact
import Derived.Test.YtbihhkcgiepgaaeGreatDoorYRef
namespace Go.Proofs.YtbihhkcgiepgaaeGreatDoor
open Go.RowKit
set_option linter.unusedVariables false
set_option linter.unusedSimpArgs false

theorem rowG_front {w : World} {g cap : Nat} {ls : List ByteArray} (h : RowG sv w (.slice (some ⟨g, 0, none⟩) (ls.length + 3) cap) (ls ++ [mrk, mrk, mrk])) : RowG sv w (.slice (some ⟨g, 0, none⟩) ls.length cap) ls := by
  obtain ⟨ao, c, e, h1, h2, h3⟩ := h
  simp only [Value.slice.injEq] at e
  obtain ⟨rfl, e2, rfl⟩ := e
  rw [List.length_append] at h1
  refine ⟨_, _, rfl, by omega, h2, fun i hi => ?_⟩
  obtain ⟨b, off, e3, hb, hc⟩ := h3 i (by rw [List.length_append]; omega)
  rw [List.getElem_append_left hi] at hc
  exact ⟨b, off, e3, hb, hc⟩

theorem parts_nil (w : World) : PartsAt w (.slice none 0 0) [] := ⟨none, 0, rfl, Nat.le_refl _, by unfold maxLen; omega, fun i hi => by simp at hi⟩

theorem badI_or (R : Nat → Rat) (n i : Nat) : badI R n i ∨ ¬ badI R n i := Classical.em _

def LwaR (w : World) (R : Nat → Rat) (n : Nat) (bv iv : Value) (wr : World) : Prop :=
  ∃ (i : Nat) (z : Int), i ≤ n ∧ iv = .int .i64 i ∧ bv = .int .i64 z ∧ (((∃ j, j < i ∧ badI R n j) ∧ z = 5) ∨ ((∀ j, j < i → ¬ badI R n j) ∧ z = 0)) ∧ w.grownBy wr none

/-- One value more. -/
theorem lwa_bad {R : Nat → Rat} {n i : Nat} (h : badI R n i) : ((∃ j, j < i + 1 ∧ badI R n j) ∧ (5 : Int) = 5) ∨ ((∀ j, j < i + 1 → ¬ badI R n j) ∧ (5 : Int) = 0) := .inl ⟨⟨i, by omega, h⟩, rfl⟩
theorem lwa_good {R : Nat → Rat} {n i : Nat} {z : Int} (h : ¬ badI R n i) (k : ((∃ j, j < i ∧ badI R n j) ∧ z = 5) ∨ ((∀ j, j < i → ¬ badI R n j) ∧ z = 0)) : ((∃ j, j < i + 1 ∧ badI R n j) ∧ z = 5) ∨ ((∀ j, j < i + 1 → ¬ badI R n j) ∧ z = 0) := by
  rcases k with ⟨⟨j, hj, k⟩, e⟩ | ⟨k, e⟩
  · exact .inl ⟨⟨j, by omega, k⟩, e⟩
  · refine .inr ⟨fun j hj => ?_, e⟩
    by_cases e : j = i
    · rw [e]; exact h
    · exact k j (by omega)

def LwbR (w : World) (kind : Int) (R : Nat → Rat) (n : Nat) (pv av nv iv : Value) (wr : World) : Prop :=
  ∃ i : Nat, i ≤ n ∧ iv = .int .i64 i ∧ OwnP wr w.heap.size pv (bldS kind R n i).2.2 ∧ av = .int .i64 ((bldS kind R n i).2.1 : Nat) ∧ nv = .int .i64 ((bldS kind R n i).1 : Nat) ∧ w.grownBy wr none

theorem bldS_sizes (kind : Int) (ls : List ByteArray) (n : Nat) (hs : ∀ i (h : i < ls.length), (ls[i]).size ≤ 1048576) : ∀ i, i ≤ ls.length → ∀ p ∈ (bldS kind (polyQ ls) n i).2.2, p.v.size ≤ 600000000
  | 0, _ => by simp [bldS]
  | i + 1, hi => by
    have ih := bldS_sizes kind ls n hs i (by omega)
    have hq : ∀ k a b, (newP k a b (polyQ ls i)).v.size ≤ 600000000 := fun k a b => by
      show (⟨(qtext (polyQ ls i)).toArray⟩ : ByteArray).size ≤ _
      rw [polyQ_at (by omega)]
      exact qtext_ofR _ (hs i (by omega))
    intro p hp
    rw [bldS] at hp
    have app : ∀ y, p ∈ (bldS kind (polyQ ls) n i).2.2 ++ [y] → (∃ k a b, y = newP k a b (polyQ ls i)) → p.v.size ≤ 600000000 := by
      intro y hm hy
      rcases List.mem_append.1 hm with h | h
      · exact ih p h
      · simp only [List.mem_singleton] at h
        obtain ⟨k, a, b, e⟩ := hy
        rw [h, e]
        exact hq k a b
    split at hp
    · exact app _ hp ⟨_, _, _, rfl⟩
    · split at hp
      · exact app _ hp ⟨_, _, _, rfl⟩
      · split at hp
        · exact ih p hp
        · exact app _ hp ⟨_, _, _, rfl⟩

set_option maxHeartbeats 8000000 in
set_option maxRecDepth 10000 in
theorem synthBuilds_any (v : Value) (ls : List ByteArray) (kind : Int) (w : World) (hv : RowG sv w v ls) (hnil : ∀ c, v = .slice none 0 c → c = 0) (hl : ls.length ≤ 1048576) (hs : ∀ i (h : i < ls.length), (ls[i]).size ≤ 1048576) (hml : MLen w) (ht : Tab10 w) :
    Calls Tryz.prog 6 #[v, .int .i64 kind] w fun e w' => e = .returned (.bool true) ∧ w.grownBy w' none := by
  have HV := hide hv
  have HNIL := hide hnil
  have HS := hide hs
  have HM := hide hml
  have HT := hide ht
  obtain ⟨ao, vcap, rfl, h1, h2, h3⟩ := hv
  unfold maxLen at h2
  have H3 := hide h3
  obtain ⟨n, hn⟩ : ∃ n, n = ls.length := ⟨_, rfl⟩
  have HN := hide hn
  rw [← hn] at h1 hl HV HNIL ⊢
  clear hnil hs hml ht h3 hn
  go_enter Tryz.func6, Tryz.ntmps6
  go_wp2_with fail
  refine (built_at w HM.out HT.out).mono ?_
  rintro e w1 ⟨rfl, g1⟩
  have G1 := hide g1
  clear g1
  go_wp2_with fail
  refine (lendQ_at _ ls w1 (HV.out.keep G1.out) HNIL.out (by rw [← HN.out]; omega)).mono ?_
  rintro e w2 ⟨g, cap, rfl, c1, c2, c3, c4⟩
  rw [← HN.out] at c1 ⊢
  have C3 := hide c3
  have HC2 := hide c2
  have G2 := hide (gr_none G1.out c4)
  unfold maxLen at c2
  clear c3 c4
  go_wp2_with fail
  have OWN : Hid (RowG sv w2 (.slice (some ⟨g, 0, none⟩) n cap) ls) := by
    have := rowG_front C3.out
    rw [← HN.out] at this
    exact this
  refine (build_at _ ls kind 1048577 w2 OWN.out (fun _ i hi => ⟨by have := HS.out i hi; omega, by have := HS.out i hi; omega⟩) (by decide) (by rw [← HN.out]; omega) (HM.out.keep0 G2.out) (HT.out.keep0 G2.out)).mono ?_
  rintro e w3 ⟨g3, hcase⟩
  rw [← HN.out] at hcase
  have G3 := hide (gr_none G2.out g3)
  have C4 := hide (C3.out.keep g3)
  have V3 := hide (HV.out.keep (gr_none G2.out g3))
  clear g3
  rcases hcase with ⟨k1, rfl⟩ | ⟨k1, k2, rfl⟩ | ⟨k1, k2, k3, k4, rfl⟩ | ⟨k1, k2, k3, k4, po, pc, rfl, k5⟩
  · have kk : (kind == 2) = false ∧ (kind == 1) = false := by
      unfold along1 at k1
      simp only [Bool.or_eq_false_iff] at k1
      exact k1
    obtain ⟨kk2, kk1⟩ := kk
    have kn2 : (kind != 2) = true := by simp only [bne, kk2, Bool.not_false]
    have kn1 : (kind != 1) = true := by simp only [bne, kk1, Bool.not_false]
    clear k1 kk2 kk1
    go_upto_region 5 with fail
    obtain ⟨w4, hw4⟩ : ∃ w4, w4 = w3.alloc (Obj.cells #[.int .i64 0, .slice none 0 0] 61) := ⟨_, rfl⟩
    have G4 : Hid (w3.grownBy w4 none) := by rw [hw4]; exact gr_alloc (gr_refl _ _) _
    have NX : Hid (∀ wx, w4.grownBy wx none → wx.cell? ⟨w3.heap.size, 0, none⟩ = some (.int .i64 0) ∧ wx.cell? ⟨w3.heap.size, 1, none⟩ = some (.slice none 0 0) ∧ ∀ i, wx.frozen? ⟨w3.heap.size, i, none⟩ = false) := by
      intro wx hg
      rw [hw4] at hg
      exact two_cells (t := 61) (by rw [hg.block w3.heap.size (by simp) (by simp)]; exact heap_alloc_new _ _)
    rw [← hw4]
    clear hw4
    go_wp2_with fail
    have ST := stillQ_at g cap (.slice ao n vcap) ls w4 (V3.out.keep G4.out) (C4.out.keep G4.out) (by rw [← HN.out]; omega) (by rw [← HN.out]; exact c1) HC2.out
    rw [← HN.out] at ST
    refine ST.mono ?_
    rintro e w5 ⟨rfl, g5⟩
    clear ST
    have G5 := hide g5
    obtain ⟨s0, s1, _⟩ := NX.out w5 g5
    have GALL := hide (gr_none G3.out (gr_none G4.out g5))
    clear g5
    go_wp2_with (go_at_call 32; refine (nets_at 0 none none 0 0 0 [] _ (parts_nil _) (parts_nil _) (by decide)).mono ?_; rintro e w6 ⟨rfl, g6⟩; have G6 := hide g6; clear g6)
    go_ret
    exact ⟨rfl, gr_none GALL.out G6.out⟩
  · have kk : ((kind != 2) = false) ∨ ((kind != 2) = true ∧ (kind != 1) = false) := by
      by_cases h2 : kind = 2
      · left; rw [h2]; rfl
      · right
        have h1 : kind = 1 := by
          unfold along1 at k1
          rw [beq_eq_false_iff_ne.2 h2, Bool.false_or] at k1
          exact beq_iff_eq.1 k1
        rw [h1]
        exact ⟨rfl, rfl⟩
    clear k1
    go_upto_region 5 with fail
    obtain ⟨w4, hw4⟩ : ∃ w4, w4 = w3.alloc (Obj.cells #[.int .i64 0, .slice none 0 0] 61) := ⟨_, rfl⟩
    have G4 : Hid (w3.grownBy w4 none) := by rw [hw4]; exact gr_alloc (gr_refl _ _) _
    have NX : Hid (∀ wx, w4.grownBy wx none → wx.cell? ⟨w3.heap.size, 0, none⟩ = some (.int .i64 0) ∧ wx.cell? ⟨w3.heap.size, 1, none⟩ = some (.slice none 0 0) ∧ ∀ i, wx.frozen? ⟨w3.heap.size, i, none⟩ = false) := by
      intro wx hg
      rw [hw4] at hg
      exact two_cells (t := 61) (by rw [hg.block w3.heap.size (by simp) (by simp)]; exact heap_alloc_new _ _)
    rw [← hw4]
    clear hw4
    go_wp2_with fail
    have ST := stillQ_at g cap (.slice ao n vcap) ls w4 (V3.out.keep G4.out) (C4.out.keep G4.out) (by rw [← HN.out]; omega) (by rw [← HN.out]; exact c1) HC2.out
    rw [← HN.out] at ST
    refine ST.mono ?_
    rintro e w5 ⟨rfl, g5⟩
    clear ST
    have G5 := hide g5
    obtain ⟨s0, s1, _⟩ := NX.out w5 g5
    have GALL := hide (gr_none G3.out (gr_none G4.out g5))
    clear g5
    have nn : (((n : Nat) : Int) < 1) ∨ (¬ ((n : Nat) : Int) < 1 ∧ (12 : Int) < (n : Int)) := by omega
    clear k2
    rcases kk with kk | ⟨kk, kk1⟩ <;> rcases nn with nn | ⟨nn, nn1⟩
    all_goals
      go_wp2_with (go_at_call 32; refine (nets_at 0 none none 0 0 0 [] _ (parts_nil _) (parts_nil _) (by decide)).mono ?_; rintro e w6 ⟨rfl, g6⟩; have G6 := hide g6; clear g6)
      go_ret
      exact ⟨rfl, gr_none GALL.out G6.out⟩
  · have kk : ((kind != 2) = false) ∨ ((kind != 2) = true ∧ (kind != 1) = false) := by
      by_cases h2 : kind = 2
      · left; rw [h2]; rfl
      · right
        have h1 : kind = 1 := by
          unfold along1 at k1
          rw [beq_eq_false_iff_ne.2 h2, Bool.false_or] at k1
          exact beq_iff_eq.1 k1
        rw [h1]
        exact ⟨rfl, rfl⟩
    clear k1
    have K4 := hide k4
    clear k4
    go_upto_region 5 with fail
    obtain ⟨w4, hw4⟩ : ∃ w4, w4 = w3.alloc (Obj.cells #[.int .i64 0, .slice none 0 0] 61) := ⟨_, rfl⟩
    have G4 : Hid (w3.grownBy w4 none) := by rw [hw4]; exact gr_alloc (gr_refl _ _) _
    have NX : Hid (∀ wx, w4.grownBy wx none → wx.cell? ⟨w3.heap.size, 0, none⟩ = some (.int .i64 0) ∧ wx.cell? ⟨w3.heap.size, 1, none⟩ = some (.slice none 0 0) ∧ ∀ i, wx.frozen? ⟨w3.heap.size, i, none⟩ = false) := by
      intro wx hg
      rw [hw4] at hg
      exact two_cells (t := 61) (by rw [hg.block w3.heap.size (by simp) (by simp)]; exact heap_alloc_new _ _)
    rw [← hw4]
    clear hw4
    go_wp2_with fail
    have ST := stillQ_at g cap (.slice ao n vcap) ls w4 (V3.out.keep G4.out) (C4.out.keep G4.out) (by rw [← HN.out]; omega) (by rw [← HN.out]; exact c1) HC2.out
    rw [← HN.out] at ST
    refine ST.mono ?_
    rintro e w5 ⟨rfl, g5⟩
    clear ST
    have G5 := hide g5
    obtain ⟨s0, s1, _⟩ := NX.out w5 g5
    have GALL := hide (gr_none G3.out (gr_none G4.out g5))
    clear g5
    have n1 : ¬ ((n : Nat) : Int) < 1 := by omega
    have n12 : ¬ (12 : Int) < (n : Int) := by omega
    have V5 := hide (V3.out.keep (gr_none G4.out G5.out))
    rcases kk with kk | ⟨kk, kk1⟩
    all_goals
      go_wp2
      go_loopw [8, 34] (fun bv iv wr => Hid (LwaR w5 (polyQ ls) n bv iv wr)) (fun _ iv _ => n - (intOf iv).toNat)
      case atStart => exact ⟨0, 0, by omega, rfl, rfl, .inr ⟨fun j hj => by omega, rfl⟩, gr_refl _ _⟩
      case round =>
        obtain ⟨i, z, hi, rfl, rfl, l1, l2⟩ := hrel.out
        have L1 := hide l1
        have L2 := hide l2
        clear hrel l1 l2
        by_cases hlt : i < n
        · have hil : i < ls.length := by rw [← HN.out]; exact hlt
          obtain ⟨b, off, e1, hbl, c0'⟩ := H3.out i hil
          subst e1
          have c0 := (gr_none GALL.out L2.out).cell c0' (by simp)
          obtain ⟨tx, htx⟩ : ∃ tx, tx = ls[i] := ⟨_, rfl⟩
          have HSZ : Hid (tx.size ≤ 1048576) := by rw [htx]; exact HS.out i hil
          obtain ⟨q, hq⟩ : ∃ q, q = polyQ ls i := ⟨_, rfl⟩
          have HQT : Hid (q = ofR tx.data.toList) := by show _ = _; rw [hq, polyQ_at hil, htx]
          have HQ := hide hq
          rw [← htx] at c0
          unfold sv at c0
          clear c0' htx hq hil
          go_wp2_with (go_at_call 10; refine (rOfV_at tx q wr HSZ.out HQT (HM.out.keep0 (gr_none GALL.out L2.out))).mono ?_; rintro e w6 ⟨b6, rfl, f1, f2⟩; have F1 := hide f1; have F2 := hide (gr_none L2.out f2); clear f1 f2)
          refine (rSignV_at b6 q 4000000 w6 F1.out).mono ?_
          rintro e w7 ⟨rfl, rfl⟩
          rcases Int.lt_trichotomy q.num 0 with hsg | hsg | hsg
          · have es : q.num.sign = -1 := Int.sign_eq_neg_one_of_neg hsg
            rw [es]
            have HB : Hid (badI (polyQ ls) n i) := .inl (by rw [← HQ.out]; exact hsg)
            clear hsg es
            go_wp2
            go_roundw
            case rel => exact ⟨i + 1, 5, by omega, by go_num, rfl, lwa_bad HB.out, F2.out⟩
            case measure => simp [intOf]; omega
          · have hq0 : q = 0 := Rat.num_eq_zero.1 hsg
            have es : q.num.sign = 0 := by rw [hsg]; rfl
            rw [es]
            by_cases hi0 : 0 < i
            · have HB : Hid (badI (polyQ ls) n i) := .inr ⟨by rw [← HQ.out]; exact hq0, .inl hi0⟩
              have hi1 : (0 : Int) < (i : Int) := by omega
              clear hsg es hq0 hi0
              go_wp2
              go_roundw
              case rel => exact ⟨i + 1, 5, by omega, by go_num, rfl, lwa_bad HB.out, F2.out⟩
              case measure => simp [intOf]; omega
            · obtain rfl : i = 0 := by omega
              by_cases hn1 : n = 1
              · have HB : Hid (badI (polyQ ls) n 0) := .inr ⟨by rw [← HQ.out]; exact hq0, .inr hn1⟩
                have hb1 : (((n : Nat) : Int) == 1) = true := by rw [hn1]; rfl
                clear hsg es hq0 hi0 hn1
                go_wp2
                go_roundw
                case rel => exact ⟨0 + 1, 5, by omega, by go_num, rfl, lwa_bad HB.out, F2.out⟩
                case measure => simp [intOf]; omega
              · have HB : Hid (¬ badI (polyQ ls) n 0) := by
                  rintro (h | ⟨_, h | h⟩)
                  · rw [← HQ.out, hq0] at h
                    exact absurd h (by decide)
                  · omega
                  · exact hn1 h
                have hb1 : (((n : Nat) : Int) == 1) = false := beq_eq_false_iff_ne.2 (by omega)
                clear hsg es hq0 hi0 hn1
                go_wp2
                go_roundw
                case rel => exact ⟨0 + 1, z, by omega, by go_num, rfl, lwa_good HB.out L1.out, F2.out⟩
                case measure => simp [intOf]; omega
          · have es : q.num.sign = 1 := Int.sign_eq_one_of_pos hsg
            rw [es]
            have HB : Hid (¬ badI (polyQ ls) n i) := by
              rintro (h | ⟨h, _⟩)
              · rw [← HQ.out] at h
                omega
              · rw [← HQ.out] at h
                rw [h] at hsg
                exact absurd hsg (by decide)
            clear hsg es
            go_wp2
            go_roundw
            case rel => exact ⟨i + 1, z, by omega, by go_num, rfl, lwa_good HB.out L1.out, F2.out⟩
            case measure => simp [intOf]; omega
        · obtain rfl : i = n := by omega
          have hz : z = 5 := by
            rcases L1.out with ⟨_, e⟩ | ⟨h, _⟩
            · exact e
            · obtain ⟨j, hj, hb⟩ := K4.out
              exact absurd hb (h j hj)
          subst hz
          obtain ⟨u0, u1', _⟩ := NX.out wr (gr_none G5.out L2.out)
          go_wp2_with (go_at_call 32; refine (nets_at 0 none none 0 0 0 [] _ (parts_nil _) (parts_nil _) (by decide)).mono ?_; rintro e w6 ⟨rfl, g6⟩; have G6 := hide g6; clear g6)
          go_ret
          exact ⟨rfl, gr_none (gr_none GALL.out L2.out) G6.out⟩
  · have kk : ((kind != 2) = false) ∨ ((kind != 2) = true ∧ (kind != 1) = false) := by
      by_cases h2 : kind = 2
      · left; rw [h2]; rfl
      · right
        have h1 : kind = 1 := by
          unfold along1 at k1
          rw [beq_eq_false_iff_ne.2 h2, Bool.false_or] at k1
          exact beq_iff_eq.1 k1
        rw [h1]
        exact ⟨rfl, rfl⟩
    clear k1
    have K4 := hide k4
    have K5 := hide k5
    clear k4 k5
    go_upto_region 5 with fail
    obtain ⟨w4, hw4⟩ : ∃ w4, w4 = w3.alloc (Obj.cells #[.int .i64 ((bldS kind (polyQ ls) n n).1 : Nat), .slice po (bldS kind (polyQ ls) n n).2.2.length pc] 61) := ⟨_, rfl⟩
    have G4 : Hid (w3.grownBy w4 none) := by rw [hw4]; exact gr_alloc (gr_refl _ _) _
    have NX : Hid (∀ wx, w4.grownBy wx none → wx.cell? ⟨w3.heap.size, 0, none⟩ = some (.int .i64 ((bldS kind (polyQ ls) n n).1 : Nat)) ∧ wx.cell? ⟨w3.heap.size, 1, none⟩ = some (.slice po (bldS kind (polyQ ls) n n).2.2.length pc) ∧ ∀ i, wx.frozen? ⟨w3.heap.size, i, none⟩ = false) := by
      intro wx hg
      rw [hw4] at hg
      exact two_cells (t := 61) (by rw [hg.block w3.heap.size (by simp) (by simp)]; exact heap_alloc_new _ _)
    rw [← hw4]
    clear hw4
    go_wp2_with fail
    have ST := stillQ_at g cap (.slice ao n vcap) ls w4 (V3.out.keep G4.out) (C4.out.keep G4.out) (by rw [← HN.out]; omega) (by rw [← HN.out]; exact c1) HC2.out
    rw [← HN.out] at ST
    refine ST.mono ?_
    rintro e w5 ⟨rfl, g5⟩
    clear ST
    have G5 := hide g5
    obtain ⟨s0, s1, _⟩ := NX.out w5 g5
    have GALL := hide (gr_none G3.out (gr_none G4.out g5))
    clear g5
    have n1 : ¬ ((n : Nat) : Int) < 1 := by omega
    have n12 : ¬ (12 : Int) < (n : Int) := by omega
    have V5 := hide (V3.out.keep (gr_none G4.out G5.out))
    rcases kk with kk | ⟨kk, kk1⟩
    all_goals
      go_wp2
      go_loopw [8, 34] (fun bv iv wr => Hid (LwaR w5 (polyQ ls) n bv iv wr)) (fun _ iv _ => n - (intOf iv).toNat)
      case atStart => exact ⟨0, 0, by omega, rfl, rfl, .inr ⟨fun j hj => by omega, rfl⟩, gr_refl _ _⟩
      case round =>
        obtain ⟨i, z, hi, rfl, rfl, l1, l2⟩ := hrel.out
        have L1 := hide l1
        have L2 := hide l2
        clear hrel l1 l2
        by_cases hlt : i < n
        · have hil : i < ls.length := by rw [← HN.out]; exact hlt
          obtain ⟨b, off, e1, hbl, c0'⟩ := H3.out i hil
          subst e1
          have c0 := (gr_none GALL.out L2.out).cell c0' (by simp)
          obtain ⟨tx, htx⟩ : ∃ tx, tx = ls[i] := ⟨_, rfl⟩
          have HSZ : Hid (tx.size ≤ 1048576) := by rw [htx]; exact HS.out i hil
          obtain ⟨q, hq⟩ : ∃ q, q = polyQ ls i := ⟨_, rfl⟩
          have HQT : Hid (q = ofR tx.data.toList) := by show _ = _; rw [hq, polyQ_at hil, htx]
          have HQ := hide hq
          rw [← htx] at c0
          unfold sv at c0
          clear c0' htx hq hil
          go_wp2_with (go_at_call 10; refine (rOfV_at tx q wr HSZ.out HQT (HM.out.keep0 (gr_none GALL.out L2.out))).mono ?_; rintro e w6 ⟨b6, rfl, f1, f2⟩; have F1 := hide f1; have F2 := hide (gr_none L2.out f2); clear f1 f2)
          refine (rSignV_at b6 q 4000000 w6 F1.out).mono ?_
          rintro e w7 ⟨rfl, rfl⟩
          rcases Int.lt_trichotomy q.num 0 with hsg | hsg | hsg
          · have es : q.num.sign = -1 := Int.sign_eq_neg_one_of_neg hsg
            rw [es]
            have HB : Hid (badI (polyQ ls) n i) := .inl (by rw [← HQ.out]; exact hsg)
            clear hsg es
            go_wp2
            go_roundw
            case rel => exact ⟨i + 1, 5, by omega, by go_num, rfl, lwa_bad HB.out, F2.out⟩
            case measure => simp [intOf]; omega
          · have hq0 : q = 0 := Rat.num_eq_zero.1 hsg
            have es : q.num.sign = 0 := by rw [hsg]; rfl
            rw [es]
            by_cases hi0 : 0 < i
            · have HB : Hid (badI (polyQ ls) n i) := .inr ⟨by rw [← HQ.out]; exact hq0, .inl hi0⟩
              have hi1 : (0 : Int) < (i : Int) := by omega
              clear hsg es hq0 hi0
              go_wp2
              go_roundw
              case rel => exact ⟨i + 1, 5, by omega, by go_num, rfl, lwa_bad HB.out, F2.out⟩
              case measure => simp [intOf]; omega
            · obtain rfl : i = 0 := by omega
              by_cases hn1 : n = 1
              · have HB : Hid (badI (polyQ ls) n 0) := .inr ⟨by rw [← HQ.out]; exact hq0, .inr hn1⟩
                have hb1 : (((n : Nat) : Int) == 1) = true := by rw [hn1]; rfl
                clear hsg es hq0 hi0 hn1
                go_wp2
                go_roundw
                case rel => exact ⟨0 + 1, 5, by omega, by go_num, rfl, lwa_bad HB.out, F2.out⟩
                case measure => simp [intOf]; omega
              · have HB : Hid (¬ badI (polyQ ls) n 0) := by
                  rintro (h | ⟨_, h | h⟩)
                  · rw [← HQ.out, hq0] at h
                    exact absurd h (by decide)
                  · omega
                  · exact hn1 h
                have hb1 : (((n : Nat) : Int) == 1) = false := beq_eq_false_iff_ne.2 (by omega)
                clear hsg es hq0 hi0 hn1
                go_wp2
                go_roundw
                case rel => exact ⟨0 + 1, z, by omega, by go_num, rfl, lwa_good HB.out L1.out, F2.out⟩
                case measure => simp [intOf]; omega
          · have es : q.num.sign = 1 := Int.sign_eq_one_of_pos hsg
            rw [es]
            have HB : Hid (¬ badI (polyQ ls) n i) := by
              rintro (h | ⟨h, _⟩)
              · rw [← HQ.out] at h
                omega
              · rw [← HQ.out] at h
                rw [h] at hsg
                exact absurd hsg (by decide)
            clear hsg es
            go_wp2
            go_roundw
            case rel => exact ⟨i + 1, z, by omega, by go_num, rfl, lwa_good HB.out L1.out, F2.out⟩
            case measure => simp [intOf]; omega
        · obtain rfl : i = n := by omega
          have hz : z = 0 := by
            rcases L1.out with ⟨⟨j, hj, hb⟩, _⟩ | ⟨_, e⟩
            · exact absurd hb (K4.out j hj)
            · exact e
          subst hz
          obtain ⟨w8, rfl⟩ : ∃ w8, w8 = wr := ⟨_, rfl⟩
          have GW8 := hide (gr_none GALL.out L2.out)
          clear s0 s1
          go_wp2
          go_loopw [12, 13, 14, 86] (fun pv av nv iv wr => Hid (LwbR w8 kind (polyQ ls) i pv av nv iv wr)) (fun _ _ _ iv _ => i - (intOf iv).toNat)
          case atStart => exact ⟨0, by omega, rfl, ownP_nil, rfl, rfl, gr_refl _ _⟩
          case round =>
            obtain ⟨j, hj, rfl, m1, rfl, rfl, m2⟩ := hrel.out
            have M1 := hide m1
            have M2 := hide m2
            obtain ⟨so, sc, es, _, _⟩ := m1.shape
            subst es
            obtain ⟨bl1, bl2, bl3⟩ := bldS_len kind (polyQ ls) i j
            have BS : Hid (bldS kind (polyQ ls) i (j + 1) = if j % 2 = 1 then ((bldS kind (polyQ ls) i j).1, (bldS kind (polyQ ls) i j).2.1, (bldS kind (polyQ ls) i j).2.2 ++ [newP 3 (bldS kind (polyQ ls) i j).2.1 0 (polyQ ls j)]) else if j + 1 = i then ((bldS kind (polyQ ls) i j).1, (bldS kind (polyQ ls) i j).2.1, (bldS kind (polyQ ls) i j).2.2 ++ [newP kind (bldS kind (polyQ ls) i j).2.1 0 (polyQ ls j)]) else if polyQ ls j = 0 then bldS kind (polyQ ls) i j else ((bldS kind (polyQ ls) i j).1 + 1, (bldS kind (polyQ ls) i j).1, (bldS kind (polyQ ls) i j).2.2 ++ [newP kind (bldS kind (polyQ ls) i j).2.1 (bldS kind (polyQ ls) i j).1 (polyQ ls j)])) := rfl
            have BE : Hid (j = i → bldS kind (polyQ ls) i j = bldS kind (polyQ ls) i i) := fun e => by rw [e]
            obtain ⟨S, hS⟩ : ∃ S, S = bldS kind (polyQ ls) i j := ⟨_, rfl⟩
            rw [← hS] at M1 bl1 bl2 bl3 BS BE ⊢
            obtain ⟨nd, hr, ps⟩ := S
            simp only at M1 bl1 bl2 bl3 BS ⊢
            obtain ⟨pl, hpl⟩ : ∃ pl, pl = ps.length := ⟨_, rfl⟩
            have HPL := hide hpl
            rw [← hpl] at M1 bl1 ⊢
            clear hrel m1 m2 hS hpl
            by_cases hlt2 : j < i
            · have hil : j < ls.length := by rw [← HN.out]; exact hlt2
              obtain ⟨b, off, e1, hbl, c0'⟩ := H3.out j hil
              subst e1
              have c0 := (gr_none GW8.out M2.out).cell c0' (by simp)
              obtain ⟨tx, htx⟩ : ∃ tx, tx = ls[j] := ⟨_, rfl⟩
              have HSZ : Hid (tx.size ≤ 1048576) := by rw [htx]; exact HS.out j hil
              obtain ⟨q, hq⟩ : ∃ q, q = polyQ ls j := ⟨_, rfl⟩
              have HQT : Hid (q = ofR tx.data.toList) := by show _ = _; rw [hq, polyQ_at hil, htx]
              have HQ := hide hq
              rw [← htx] at c0
              rw [← hq] at BS
              unfold sv at c0
              clear c0' htx hq hil
              go_wp2_with (go_at_call 10; refine (rOfV_at tx q wr HSZ.out HQT (HM.out.keep0 (gr_none GW8.out M2.out))).mono ?_; rintro e w6 ⟨b6, rfl, f1, f2⟩; have F1 := hide f1; have F2 := hide f2; clear f1 f2)
              refine (rTV_at b6 q w6 F1.out).mono ?_
              rintro e w7 ⟨rfl, f7⟩
              have F7 := hide (gr_none F2.out f7)
              clear f7
              by_cases hodd : j % 2 = 1
              · have ho1 : ((((j : Nat) : Int).tmod 2) == 1) = true := by rw [Int.tmod_eq_emod_of_nonneg (by omega)]; exact beq_iff_eq.2 (by omega)
                have ho2 : ((((j : Nat) : Int) % 2) == 1) = true := beq_iff_eq.2 (by omega)
                have HODD := hide hodd
                clear hodd
                go_wp2_with (first
                  | (go_at_call 34; refine (part_at 3 (hr : Nat) 0 ⟨(qtext q).toArray⟩ _).mono ?_; rintro e wa ⟨rfl, ga⟩; have GA := hide (gr_none F7.out ga); have GB : Hid (wr.grownBy (wa.alloc (Obj.cells #[.int .i64 3, .int .i64 (hr : Nat), .int .i64 0, .int .i64 0, .int .i64 0, .string ⟨(qtext q).toArray⟩] 68)) none) := gr_alloc GA.out _; have hszb : w8.heap.size ≤ wa.heap.size := Nat.le_trans M2.out.size GA.out.size; clear ga)
                  | (at_builtin; refine wpList_append_prt _ rfl _ _ 59 rfl w8.heap.size Tryz.underlying59 Tryz.infoPart _ ps rfl (M1.out.keep0 GB.out) wa.heap.size (newP 3 (hr : Nat) 0 q) rfl (heap_alloc_new wa _) (by have := HPL.out; omega) (by simp; omega) ?_))
                intro ao9 c9 wb ho hg hwk
                have HO := hide ho
                have GC : Hid (w8.grownBy wb none) := by
                  refine gr_trans (r := none) (gr_none M2.out GB.out) hg (fun _ _ e => e) (fun b hb e => ?_)
                  have := (M1.out.fresh b e.symm).1
                  omega
                clear ho hg hwk
                go_wp2
                go_roundw
                case rel =>
                  have eS : bldS kind (polyQ ls) i (j + 1) = (nd, hr, ps ++ [newP 3 (hr : Nat) 0 q]) := by
                    rw [BS.out, if_pos HODD.out]
                  have hlen : (ps ++ [newP 3 (hr : Nat) 0 q]).length = ps.length + 1 := by simp
                  refine ⟨j + 1, by omega, by go_num, ?_, by rw [eS], by rw [eS], GC.out⟩
                  rw [eS]
                  exact HO.out
                case measure => simp [intOf]; omega
              · have ho1 : ((((j : Nat) : Int).tmod 2) == 1) = false := by rw [Int.tmod_eq_emod_of_nonneg (by omega)]; exact beq_eq_false_iff_ne.2 (by omega)
                have ho2 : ((((j : Nat) : Int) % 2) == 1) = false := beq_eq_false_iff_ne.2 (by omega)
                have HODD := hide hodd
                clear hodd
                go_wp2_with (go_at_call 10; refine (rOfV_at tx q w7 HSZ.out HQT (HM.out.keep0 (gr_none GW8.out (gr_none M2.out F7.out)))).mono ?_; rintro e w9 ⟨b9, rfl, f1, f2⟩; have F9 := hide f1; have G9 := hide (gr_none F7.out f2); clear f1 f2)
                refine (rSignV_at b9 q 4000000 w9 F9.out).mono ?_
                rintro e w10 ⟨rfl, rfl⟩
                by_cases hq0 : q = 0
                · have es : q.num.sign = 0 := by rw [hq0]; rfl
                  rw [es]
                  have HQ0 := hide hq0
                  have HJ : Hid (j = 0 ∧ i ≠ 1) := by
                    have h := K4.out j hlt2
                    refine ⟨?_, fun e => h (.inr ⟨by rw [← HQ.out]; exact hq0, .inr e⟩)⟩
                    rcases Nat.eq_zero_or_pos j with e | e
                    · exact e
                    · exact absurd (.inr ⟨by rw [← HQ.out]; exact hq0, .inl e⟩) h
                  clear hq0 es
                  go_wp2
                  go_roundw
                  case rel =>
                    obtain ⟨hj0, hi1⟩ := HJ.out
                    have eS : bldS kind (polyQ ls) i (j + 1) = (nd, hr, ps) := by
                      rw [BS.out, if_neg HODD.out, if_neg (by omega), if_pos HQ0.out]
                    refine ⟨j + 1, by omega, by go_num, ?_, by rw [eS], by rw [eS], gr_none M2.out G9.out⟩
                    rw [eS]
                    exact M1.out.keep0 G9.out
                  case measure => simp [intOf]; omega
                · have HQ0 := hide hq0
                  have hsn : (q.num.sign == 0) = false := beq_eq_false_iff_ne.2 (fun e => hq0 (Rat.num_eq_zero.1 (Int.sign_eq_zero_iff_zero.1 e)))
                  obtain ⟨sz, hsz⟩ : ∃ sz, sz = q.num.sign := ⟨_, rfl⟩
                  rw [← hsz] at hsn ⊢
                  clear hsz hq0
                  by_cases hlst : j + 1 = i
                  · have hlast : (((j : Nat) : Int) == ((i : Int) - 1)) = true := beq_iff_eq.2 (by omega)
                    have HLST := hide hlst
                    clear hlst
                    go_wp2_with (first
                      | (go_at_call 34; refine (part_at kind (hr : Nat) 0 ⟨(qtext q).toArray⟩ _).mono ?_; rintro e wa ⟨rfl, ga⟩; have GA := hide (gr_none G9.out ga); have GB : Hid (wr.grownBy (wa.alloc (Obj.cells #[.int .i64 kind, .int .i64 (hr : Nat), .int .i64 0, .int .i64 0, .int .i64 0, .string ⟨(qtext q).toArray⟩] 68)) none) := gr_alloc GA.out _; have hszb : w8.heap.size ≤ wa.heap.size := Nat.le_trans M2.out.size GA.out.size; clear ga)
                      | (at_builtin; refine wpList_append_prt _ rfl _ _ 59 rfl w8.heap.size Tryz.underlying59 Tryz.infoPart _ ps rfl (M1.out.keep0 GB.out) wa.heap.size (newP kind (hr : Nat) 0 q) rfl (heap_alloc_new wa _) (by have := HPL.out; omega) (by simp; omega) ?_))
                    intro ao9 c9 wb ho hg hwk
                    have HO := hide ho
                    have GC : Hid (w8.grownBy wb none) := by
                      refine gr_trans (r := none) (gr_none M2.out GB.out) hg (fun _ _ e => e) (fun b hb e => ?_)
                      have := (M1.out.fresh b e.symm).1
                      omega
                    clear ho hg hwk
                    go_wp2
                    go_roundw
                    case rel =>
                      have eS : bldS kind (polyQ ls) i (j + 1) = (nd, hr, ps ++ [newP kind (hr : Nat) 0 q]) := by
                        rw [BS.out, if_neg HODD.out, if_pos HLST.out]
                      have hlen : (ps ++ [newP kind (hr : Nat) 0 q]).length = ps.length + 1 := by simp
                      refine ⟨j + 1, by omega, by go_num, ?_, by rw [eS], by rw [eS], GC.out⟩
                      rw [eS]
                      exact HO.out
                    case measure => simp [intOf]; omega
                  · have hlast : (((j : Nat) : Int) == ((i : Int) - 1)) = false := beq_eq_false_iff_ne.2 (by omega)
                    have HLST := hide hlst
                    clear hlst
                    go_wp2_with (first
                      | (go_at_call 34; refine (part_at kind (hr : Nat) (nd : Nat) ⟨(qtext q).toArray⟩ _).mono ?_; rintro e wa ⟨rfl, ga⟩; have GA := hide (gr_none G9.out ga); have GB : Hid (wr.grownBy (wa.alloc (Obj.cells #[.int .i64 kind, .int .i64 (hr : Nat), .int .i64 (nd : Nat), .int .i64 0, .int .i64 0, .string ⟨(qtext q).toArray⟩] 68)) none) := gr_alloc GA.out _; have hszb : w8.heap.size ≤ wa.heap.size := Nat.le_trans M2.out.size GA.out.size; clear ga)
                      | (at_builtin; refine wpList_append_prt _ rfl _ _ 59 rfl w8.heap.size Tryz.underlying59 Tryz.infoPart _ ps rfl (M1.out.keep0 GB.out) wa.heap.size (newP kind (hr : Nat) (nd : Nat) q) rfl (heap_alloc_new wa _) (by have := HPL.out; omega) (by simp; omega) ?_))
                    intro ao9 c9 wb ho hg hwk
                    have HO := hide ho
                    have GC : Hid (w8.grownBy wb none) := by
                      refine gr_trans (r := none) (gr_none M2.out GB.out) hg (fun _ _ e => e) (fun b hb e => ?_)
                      have := (M1.out.fresh b e.symm).1
                      omega
                    clear ho hg hwk
                    go_wp2
                    go_roundw
                    case rel =>
                      have eS : bldS kind (polyQ ls) i (j + 1) = (nd + 1, nd, ps ++ [newP kind (hr : Nat) (nd : Nat) q]) := by
                        rw [BS.out, if_neg HODD.out, if_neg HLST.out, if_neg HQ0.out]
                      have hlen : (ps ++ [newP kind (hr : Nat) (nd : Nat) q]).length = ps.length + 1 := by simp
                      refine ⟨j + 1, by omega, by go_num, ?_, by rw [eS], by rw [eS]; go_num, GC.out⟩
                      rw [eS]
                      exact HO.out
                    case measure => simp [intOf]; omega
            · obtain rfl : j = i := by omega
              have hBE := BE.out rfl
              obtain ⟨u0, u1', _⟩ := NX.out wr (gr_none G5.out (gr_none L2.out M2.out))
              rw [← hBE] at u0 u1'
              simp only at u0 u1'
              rw [← HPL.out] at u1'
              have PP : Hid (∀ wx, wr.grownBy wx none → PartsAt wx (.slice po pl pc) ps ∧ PartsAt wx (.slice so pl sc) ps) := by
                intro wx hg
                have hsz := bldS_sizes kind ls j HS.out j (by rw [← HN.out]; exact Nat.le_refl _)
                rw [← hBE] at hsz
                have k5 := K5.out
                rw [← hBE] at k5
                simp only at k5 hsz
                rw [← HPL.out] at k5
                exact ⟨(k5.parts hsz).keep (gr_none (gr_none G4.out G5.out) (gr_none L2.out (gr_none M2.out hg))), (M1.out.parts hsz).keep hg⟩
              have hpl12 : ps.length ≤ 100000 := by have := HPL.out; omega
              clear hBE
              go_wp2_with (go_at_call 32; refine (nets_at (nd : Nat) po so pl pc sc ps _ (PP.out _ (gr_refl _ _)).1 (PP.out _ (gr_refl _ _)).2 hpl12).mono ?_; rintro e wn ⟨rfl, gn⟩; have GN := hide gn; clear gn)
              go_ret
              exact ⟨rfl, gr_none GW8.out (gr_none M2.out GN.out)⟩
end Go.Proofs.YtbihhkcgiepgaaeGreatDoor
