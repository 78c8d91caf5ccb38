/- voltaicbig: Int.SetString of digits, Int.Sign, Rat.Sign, Rat.Neg. -/
import Derived.Test.YtgdiepfknfnmjaaGreatDoorRats
import Derived.Test.YtgdiepfknfnmjaaGreatDoorMFc
namespace Go.Proofs.YtgdiepfknfnmjaaGreatDoor
open Go.RowKit
set_option linter.unusedVariables false

theorem isD_of {l : List UInt8} (h : ∀ c ∈ l, isD c = true) (c : UInt8) (hc : c ∈ l) : 48 ≤ c.toNat ∧ c.toNat ≤ 57 := by
  have := h c hc
  unfold isD at this
  rw [Bool.and_eq_true, decide_eq_true_eq, decide_eq_true_eq] at this
  exact this

theorem byte_mem (s : ByteArray) (i : Nat) (h : i < s.size) : s[i] ∈ s.data.toList := by
  have : s[i] = s.data.toList[i]'(by simpa using h) := rfl
  rw [this]
  exact List.getElem_mem _

theorem num_nil (w : World) : Num w (.slice none 0 0) 0 0 := ⟨[], Ws.nil w, rfl, rfl, Nat.le_refl _⟩

theorem num_shape {w : World} {v : Value} {n L : Nat} (h : Num w v n L) : ∃ ao l cap, v = .slice ao l cap ∧ l ≤ cap ∧ cap ≤ 9223372036854775807 := by
  obtain ⟨xs, x1, x2, x3, x4⟩ := h
  obtain ⟨ao, ca, rfl, h1, h2, h3⟩ := x1.open
  exact ⟨ao, xs.length, ca, rfl, h1, by unfold maxLen at h2; omega⟩

/-- SetString, on its way. -/
def SetR (w : World) (s : ByteArray) (rv iv : Value) (wr : World) : Prop :=
  ∃ i : Nat, i ≤ s.size ∧ iv = .int .i64 i ∧ Num wr rv (decL (s.data.toList.take i)) (3 * i) ∧ w.grownBy wr none ∧ Fresh w rv

/-- What SetString answers. -/
def SetE (w : World) (b off : Nat) (s : ByteArray) (e : Ending) (w' : World) : Prop := e = .returned (.tuple #[.pointer (some ⟨b, off, none⟩), .bool true]) ∧ Put w w' b off ∧ IntAt w' b off (decL s.data.toList : Nat) (3 * s.size) ∧ NewIn w w' b off

set_option maxHeartbeats 4000000 in
set_option maxRecDepth 10000 in
theorem setString_at (b off : Nat) (neg0 : Bool) (v0 : Value) (s : ByteArray) (w : World) (hB : Box w b off neg0 v0) (h0 : 0 < s.size) (hs : s.size ≤ 100000000) (hd : ∀ c ∈ s.data.toList, isD c = true) :
    Calls Tryz.prog 24 #[.pointer (some ⟨b, off, none⟩), .string s, .int .i64 10] w fun e w' => SetE w b off s e w' := by
  have HB := hide hB
  have hb := hB.lt
  have HD := hide hd
  obtain ⟨f1, f2⟩ := isD_of hd s[0] (byte_mem s 0 h0)
  have g1 : ((s[0].toNat : Int) == 45) = false := by simp; omega
  have g2 : ((s[0].toNat : Int) == 43) = false := by simp; omega
  have hne : ((s.size : Int) == 0) = false := by simp; intro e; rw [e] at h0; simp at h0
  clear hd hB f1 f2
  go_enter Tryz.func24, Tryz.ntmps24
  go_wp2
  clear g1 g2 hne
  go_loopw [9, 10] (fun rv iv wr => Hid (SetR w s rv iv wr)) (fun _ iv _ => s.size - (intOf iv).toNat)
  case atStart => exact ⟨0, by omega, rfl, num_nil _, gr_refl _ _, fun k hk => by simp [blockOf] at hk⟩
  case round =>
    obtain ⟨i, hi, rfl, h1, h2, h3⟩ := hrel.out
    obtain ⟨ao, l, cap, rfl, hc1, hc2⟩ := num_shape h1
    have H1 := hide h1
    have H2 := hide h2
    have H3 := hide h3
    clear h1 h2 h3 hrel
    by_cases hlt : i < s.size
    · obtain ⟨d1, d2⟩ := isD_of HD.out s[i] (byte_mem s i hlt)
      have HTB := hide (take_byte s i hlt)
      obtain ⟨c, hc⟩ : ∃ c, c = s[i].toNat := ⟨_, rfl⟩
      have d1' : (48 : Int) ≤ (s[i].toNat : Int) := by omega
      have d2' : (s[i].toNat : Int) ≤ 57 := by omega
      have HC := hide hc
      clear hc
      go_wp2_with fail
      refine (words_num _ _ ?p1 ?p2).mono ?_
      case p1 => omega
      case p2 => omega
      rintro e w1 ⟨v1, rfl, k1, k2, k3⟩
      obtain ⟨ao1, l1, cap1, rfl, hd1, hd2⟩ := num_shape k1
      have K1 := hide k1
      have K2 := hide k2
      clear k1 k2 k3
      go_wp2_with fail
      refine (mul_num _ _ (decL (s.data.toList.take i)) 10 (3 * i) 2 w1 (H1.out.keep0 K2.out) (by simpa using K1.out) (by omega)).mono ?_
      rintro e w2 ⟨v2, rfl, m1, m2, m3⟩
      obtain ⟨ao2, l2, cap2, rfl, he1, he2⟩ := num_shape m1
      have M1 := hide m1
      have M2 := hide (gr_none K2.out m2)
      clear m1 m2 m3
      go_wp2_with fail
      refine (words_num _ _ ?q1 ?q2).mono ?_
      case q1 => omega
      case q2 => omega
      rintro e w3 ⟨v3, rfl, n1, n2, n3⟩
      obtain ⟨ao3, l3, cap3, rfl, hf1, hf2⟩ := num_shape n1
      have N1 := hide n1
      have N2 := hide (gr_none M2.out n2)
      have M1' := hide (M1.out.keep0 n2)
      clear n1 n2 n3
      go_wp2_with fail
      refine (add_num _ _ _ _ (3 * i + 2) 2 w3 M1'.out N1.out (by omega) (by omega)).mono ?_
      rintro e w4 ⟨v4, rfl, p1, p2, p3⟩
      obtain ⟨ao4, l4, cap4, rfl, hg1, hg2⟩ := num_shape p1
      have P1 := hide p1
      have P2 := hide (gr_none N2.out p2)
      have P3 := hide (show Fresh w (Value.slice ao4 l4 cap4) from fun k hk => Nat.le_trans (gr_none H2.out N2.out).size (p3 k hk))
      clear p1 p2 p3
      go_wp2
      go_roundw
      case rel =>
        refine ⟨i + 1, by omega, by go_num, ?_, gr_none H2.out P2.out, P3.out⟩
        rw [HTB.out, dec_snoc]
        have hP := P1.out.mono (L' := 3 * (i + 1)) (by omega)
        have e : ((s[i].toNat : Int) - 48).toNat = s[i].toNat - 48 := by omega
        first
          | exact hP
          | (rw [e] at hP; exact hP)
      case measure => simp [intOf]; omega
    · have ht : s.data.toList.take i = s.data.toList := List.take_of_length_le (by have := Lib.size_eq s; omega)
      have hi2 : i = s.size := by omega
      have HT := hide ht
      clear ht
      go_wp2_with fail
      refine (give_num b off neg0 v0 _ _ _ _ wr (HB.out.keep0 H2.out) H1.out (fresh_ne (w1 := w) H3.out hb)).mono ?_
      rintro e w2 ⟨rfl, a1, a2, a5⟩
      have A1 := hide a1
      have A2 := hide a2
      have A5 := hide a5
      clear a1 a2 a5
      go_wp2
      refine bodyPost_ret (v := .tuple #[.pointer (some ⟨b, off, none⟩), .bool true]) (by simp [results, Tryz.results24, go_sem]) rfl ?_
      refine ⟨rfl, (Put.of_gr H2.out b off hb).trans A1.out, ?_, NewIn.of A5.out H3.out (Nat.le_refl _)⟩
      have h := A2.out
      rw [HT.out, hi2] at h
      exact h

set_option maxHeartbeats 1000000 in
theorem intSign_at (b off : Nat) (z : Int) (L : Nat) (w : World) (h : IntAt w b off z L) :
    Calls Tryz.prog 41 #[.pointer (some ⟨b, off, none⟩)] w fun e w' => e = .returned (.int .i64 (sgn z)) ∧ w' = w := by
  obtain ⟨neg, v, h1, h2, h3, h4⟩ := h
  obtain ⟨ao, l, ca, rfl, hl, _, hc1, hc2, _, _⟩ := num_zero h2
  have c0 := h1.c0
  have c1 := h1.c1
  clear h1 h2 h4
  by_cases hz : z = 0
  · have hl0 : l = 0 := hl.2 (by omega)
    subst hl0
    clear hl
    go_enter Tryz.func41, Tryz.ntmps41
    go_wp2
    go_ret
    exact ⟨by simp [sgn, hz], rfl⟩
  · have hl0 : 0 < l := by
      rcases Nat.eq_zero_or_pos l with e | e
      · have := hl.1 e; omega
      · exact e
    have hl1 : ((l : Int) == 0) = false := by simp; omega
    clear hl
    by_cases hn : z < 0
    · obtain rfl : neg = true := by rw [h3]; simp [hn]
      clear h3
      go_enter Tryz.func41, Tryz.ntmps41
      go_wp2
      go_ret
      exact ⟨by simp [sgn, hn], rfl⟩
    · obtain rfl : neg = false := by rw [h3]; simp [hn]
      clear h3
      go_enter Tryz.func41, Tryz.ntmps41
      go_wp2
      go_ret
      refine ⟨?_, rfl⟩
      have hp : 0 < z := by omega
      simp [sgn, hn, hp]

set_option maxHeartbeats 1000000 in
theorem ratSign_at (b : Nat) (z : Int) (L : Nat) (w : World) (h : IntAt w b 0 z L) :
    Calls Tryz.prog 35 #[.pointer (some ⟨b, 0, none⟩)] w fun e w' => e = .returned (.int .i64 (sgn z)) ∧ w' = w := by
  have H := hide h
  clear h
  go_enter Tryz.func35, Tryz.ntmps35
  go_wp2_with fail
  refine (intSign_at b 0 z L w H.out).mono ?_
  rintro e w1 ⟨rfl, rfl⟩
  go_wp2
  go_ret
  exact ⟨rfl, rfl⟩

theorem low_self {x : Int} {y : Nat} (h : Nat.gcd x.natAbs y = 1) : low1 x y = x ∧ low2 x y = y := by
  unfold low1 low2
  rw [h]
  simp

set_option maxHeartbeats 2000000 in
theorem ratSet_self (b : Nat) (x : Int) (y L : Nat) (w : World) (h : RatAt w b x y L) (hL : L ≤ 400000000) :
    Calls Tryz.prog 98 #[.pointer (some ⟨b, 0, none⟩), .pointer (some ⟨b, 0, none⟩)] w fun e w' => e = .returned (.pointer (some ⟨b, 0, none⟩)) ∧ RPut w w' b ∧ RatAt w' b x y (L + 2) := by
  have H := hide h
  obtain ⟨n1, v1, b1, _⟩ := h.1
  obtain ⟨n2, v2, b2, _⟩ := h.2.1
  have B1 := hide b1
  have B2 := hide b2
  have hlow := low_self h.2.2.2
  have HLOW := hide hlow
  clear h b1 b2 hlow
  go_enter Tryz.func98, Tryz.ntmps98
  go_wp2
  go_region_with (first | (go_at_call 81; refine (den_at b x y L _ (H.out.keep0 (gr_dn _))).mono ?_; rintro e w1 ⟨rfl, rfl⟩) | (go_at_call 50; refine (setFrac_pos b b 0 b 2 n1 n2 v1 v2 x y L _ (B1.out.keep0 (gr_dn _)) (B2.out.keep0 (gr_dn _)) (H.out.1.keep0 (gr_dn _)) (H.out.2.1.keep0 (gr_dn _)) H.out.2.2.1 hL).mono ?_; rintro e w2 ⟨rfl, a1, a2⟩))
  all_goals go_wp2
  all_goals go_ret
  all_goals rw [HLOW.out.1, HLOW.out.2] at a2
  all_goals exact ⟨rfl, (RPut.of_gr (gr_dn _)).trans a1, a2⟩

set_option maxHeartbeats 2000000 in
theorem ratNeg_self (b : Nat) (x : Int) (y L : Nat) (w : World) (h : RatAt w b x y L) (hL : L ≤ 400000000) :
    Calls Tryz.prog 51 #[.pointer (some ⟨b, 0, none⟩), .pointer (some ⟨b, 0, none⟩)] w fun e w' => e = .returned (.pointer (some ⟨b, 0, none⟩)) ∧ RPut w w' b ∧ RatAt w' b (-x) y (L + 2) := by
  have H := hide h
  clear h
  go_enter Tryz.func51, Tryz.ntmps51
  go_wp2_with fail
  refine (ratSet_self b x y L w H.out hL).mono ?_
  rintro e w1 ⟨rfl, a1, a2⟩
  obtain ⟨n1, v1, b1, _⟩ := a2.1
  have A1 := hide a1
  have A2 := hide a2
  have B1 := hide b1
  clear a1 a2 b1
  go_wp2
  go_region_with (go_at_call 99; refine (neg_at b 0 b 0 n1 v1 x (L + 2) _ (B1.out.keep0 (gr_dn _)) (A2.out.1.keep0 (gr_dn _)) (by omega)).mono ?_; rintro e w2 ⟨rfl, c1, c2, c3⟩)
  all_goals go_wp2
  all_goals go_ret
  all_goals refine ⟨rfl, A1.out.trans ((RPut.of_gr (gr_dn _)).trans (RPut.of_put c1)), c2, ?_, A2.out.2.2.1, by rw [Int.natAbs_neg]; exact A2.out.2.2.2⟩
  all_goals refine (A2.out.2.1.keep0 (gr_dn _)).keep c1 (.inr (.inr (by omega))) ?_
  all_goals (intro v hv e; obtain ⟨n2, v2, b2, b3, b4, b5⟩ := A2.out.2.1; have e2 := b2.c1; simp at e2 hv; rw [e2] at hv; exact b5 (by rw [Option.some.inj hv]; exact e))
end Go.Proofs.YtgdiepfknfnmjaaGreatDoor
