/- The reference: ten. -/
import Derived.Test.YtgdiepfknfnmjaaGreatDoorRQuo
import Derived.Test.YtgdiepfknfnmjaaGreatDoorMRa
import Derived.Test.YtgdiepfknfnmjaaGreatDoorMFd
import Derived.Deep.RegionHeld3
import Derived.Test.YtgdiepfknfnmjaaGreatDoorMU3
import Derived.Laws.IdiomRangeMap
import Derived.MapKept
import Derived.Maps.RangeRun
namespace Go.Proofs.YtgdiepfknfnmjaaGreatDoor
open Go.RowKit
set_option linter.unusedVariables false
set_option linter.unusedSimpArgs false

theorem gr_dr {w : World} (n : Nat) : w.grownBy (w.drewN n) none := gr_drewN (gr_refl _ _) n

/-- ten, on its way. -/
def TenR (w : World) (z : Int) (L : Nat) (g : Nat) (nv rv : Value) (wr : World) : Prop :=
  ∃ (k : Int) (b : Nat), nv = .int .i64 k ∧ rv = .pointer (some ⟨b, 0, none⟩) ∧ k.natAbs ≤ z.natAbs ∧ (0 ≤ z → 0 ≤ k) ∧ (z ≤ 0 → k ≤ 0) ∧ RQ wr b ((10 : Rat) ^ (z - k)) (4 + 6 * (z - k).natAbs) ∧ w.grownBy wr none ∧ k.natAbs = g

theorem ten_ne : (10 : Rat) ≠ 0 := by decide +kernel

set_option maxHeartbeats 4000000 in
theorem rTen_at (z : Int) (w : World) (h1 : -1000000 ≤ z) (h2 : z ≤ 1000000) :
    Calls Tryz.prog 27 #[.int .i64 z] w fun e w' => ∃ b, e = .returned (.pointer (some ⟨b, 0, none⟩)) ∧ RQ w' b ((10 : Rat) ^ z) (4 + 6 * z.natAbs) ∧ w.grownBy w' none := by
  go_enter Tryz.func27, Tryz.ntmps27
  go_wp2_with fail
  refine (rN_at 1 _ (by omega) (by omega)).mono ?_
  rintro e w1 ⟨b, rfl, a1, a2, a3⟩
  have A1 := hide a1
  have A2 := hide a2
  clear a1 a2 a3
  go_wp2
  go_loopg [0, 3] z.natAbs (fun g nv rv wr => Hid (TenR w z 4 g nv rv wr))
  case atStart =>
    refine ⟨z, b, rfl, rfl, Nat.le_refl _, fun h => h, fun h => h, ?_, A2.out, rfl⟩
    rw [Int.sub_self, Rat.zpow_zero]
    exact A1.out
  case round =>
    obtain ⟨k, b, rfl, rfl, t1, t2, t3, t4, t5, t6⟩ := hrel.out
    have T4 := hide t4
    have T5 := hide t5
    clear t4 t5 hrel A1 A2
    by_cases hk : 0 < k
    · go_wp2_with fail
      refine (rN_at 10 _ (by omega) (by omega)).mono ?_
      rintro e w2 ⟨b2, rfl, c1, c2, c3⟩
      have C1 := hide c1
      have C2 := hide c2
      clear c1 c2 c3
      go_wp2_with fail
      refine (rMul_at b b2 _ _ _ _ _ (T4.out.keep0 C2.out) C1.out (by omega)).mono ?_
      rintro e w3 ⟨b3, rfl, d1, d2, d3⟩
      have D1 := hide d1
      have D2 := hide d2
      clear d1 d2 d3
      go_wp2
      go_roundg (k - 1).natAbs
      case measure => omega
      case rel =>
        refine ⟨k - 1, b3, by go_num, rfl, by omega, fun h => by omega, fun h => by omega, ?_, gr_none T5.out (gr_none C2.out D2.out), rfl⟩
        have hd := D1.out
        rw [show (((10 : Int) : Rat)) = (10 : Rat) from rfl, ← Rat.zpow_add_one ten_ne] at hd
        rw [show z - (k - 1) = z - k + 1 from by omega]
        exact hd.mono (by omega)
    · have hk2 : k ≤ 0 := by omega
      have HT : Hid (TenR w z 4 k.natAbs (.int .i64 k) (.pointer (some ⟨b, 0, none⟩)) wr) := ⟨k, b, rfl, rfl, t1, t2, t3, T4.out, T5.out, rfl⟩
      clear T4 T5
      go_wp2
      go_loopg [0, 3] k.natAbs (fun g nv rv wr => Hid (TenR w z 4 g nv rv wr ∧ ∃ k : Int, nv = .int .i64 k ∧ k ≤ 0))
      case atStart => exact ⟨HT.out, k, rfl, hk2⟩
      case round =>
        clear HT hk hk2 t1 t2 t3 t6
        obtain ⟨⟨k, b, rfl, rfl, t1, t2, t3, t4, t5, t6⟩, k2, e2, hk2⟩ := hrel.out
        simp only [Value.int.injEq, true_and] at e2
        subst e2
        have T4 := hide t4
        have T5 := hide t5
        clear t4 t5 hrel
        by_cases hk : k < 0
        · go_wp2_with fail
          refine (rN_at 10 _ (by omega) (by omega)).mono ?_
          rintro e w2 ⟨b2, rfl, c1, c2, c3⟩
          have C1 := hide c1
          have C2 := hide c2
          clear c1 c2 c3
          go_wp2_with fail
          refine (rQuo_at b b2 _ _ 10 _ _ _ (T4.out.keep0 C2.out) C1.out rfl (by omega) (by omega)).mono ?_
          rintro e w3 ⟨b3, rfl, d1, d2, d3⟩
          have D1 := hide d1
          have D2 := hide d2
          clear d1 d2 d3
          go_wp2
          go_roundg (k + 1).natAbs
          case measure => omega
          case rel =>
            refine ⟨⟨k + 1, b3, by go_num, rfl, by omega, fun h => by omega, fun h => by omega, ?_, gr_none T5.out (gr_none C2.out D2.out), rfl⟩, k + 1, by go_num, by omega⟩
            have hd := D1.out
            rw [show (((10 : Int) : Rat)) = (10 : Rat) from rfl, Rat.div_def, ← Rat.zpow_sub_one ten_ne] at hd
            rw [show z - (k + 1) = z - k - 1 from by omega]
            exact hd.mono (by omega)
        · obtain rfl : k = 0 := by omega
          go_wp2
          go_ret
          refine ⟨b, rfl, ?_, T5.out⟩
          have h4 := T4.out
          rw [Int.sub_zero] at h4
          exact h4
end Go.Proofs.YtgdiepfknfnmjaaGreatDoor

namespace Go.Proofs.YtgdiepfknfnmjaaGreatDoor
open Go.RowKit
set_option linter.unusedVariables false
set_option linter.unusedSimpArgs false

set_option maxHeartbeats 4000000 in
theorem intCmp_at (bx ox bY oY : Nat) (x y L M : Nat) (w : World) (hX : IntAt w bx ox (x : Int) L) (hY : IntAt w bY oY (y : Int) M) :
    Calls Tryz.prog 43 #[.pointer (some ⟨bx, ox, none⟩), .pointer (some ⟨bY, oY, none⟩)] w fun e w' => e = .returned (.int .i64 (ord x y)) ∧ w.grownBy w' none := by
  obtain ⟨nx, vx, x1, x2, x3, x4⟩ := hX
  obtain ⟨ny, vy, y1, y2, y3, y4⟩ := hY
  have ex : nx = false := by rw [x3]; exact decide_eq_false (by omega)
  have ey : ny = false := by rw [y3]; exact decide_eq_false (by omega)
  subst ex ey
  rw [Int.natAbs_natCast] at x2 y2
  obtain ⟨xo, xl, xc, rfl, _, _, _, _, _, _⟩ := num_zero x2
  obtain ⟨yo, yl, yc, rfl, _, _, _, _, _, _⟩ := num_zero y2
  have X2 := hide x2
  have Y2 := hide y2
  have c0 := x1.c0
  have c1 := x1.c1
  have d0 := y1.c0
  have d1 := y1.c1
  clear x1 x2 x3 x4 y1 y2 y3 y4
  go_enter Tryz.func43, Tryz.ntmps43
  go_wp2
  go_quiet (fail)
  go_wp2
  go_region_with (go_at_call 87; refine (cmp_num _ _ x y L M _ (X2.out.keep0 (by first | exact gr_refl _ _ | (refine gr_drewN ?_ _; first | exact gr_refl _ _ | exact gr_drewN (gr_refl _ _) _))) (Y2.out.keep0 (by first | exact gr_refl _ _ | (refine gr_drewN ?_ _; first | exact gr_refl _ _ | exact gr_drewN (gr_refl _ _) _)))).mono ?_; rintro e w2 ⟨rfl, qq, rfl⟩)
  all_goals
    go_wp2
    go_ret
    exact ⟨rfl, by repeat (first | exact gr_refl _ _ | refine gr_drewN ?_ _)⟩

theorem ord_one (n : Nat) (h : 0 < n) : (ord n 1 == 0) = decide (n = 1) := by
  unfold ord
  by_cases e : n = 1
  · subst e; rfl
  · rw [if_neg (by omega), if_neg e]
    simp [e]

set_option maxHeartbeats 2000000 in
theorem isInt_at (b : Nat) (q : Rat) (L : Nat) (w : World) (h : RQ w b q L) :
    Calls Tryz.prog 46 #[.pointer (some ⟨b, 0, none⟩)] w fun e w' => e = .returned (.bool (decide (q.den = 1))) ∧ w.grownBy w' none := by
  have H := hide h
  clear h
  go_enter Tryz.func46, Tryz.ntmps46
  go_wp2_with fail
  refine (den_at b _ _ L _ H.out).mono ?_
  rintro e w1 ⟨rfl, hw1⟩
  rw [hw1]
  clear hw1
  go_wp2_with fail
  refine (newInt_at 1 _ (by omega) (by omega)).mono ?_
  rintro e w2 ⟨rfl, a1, a2, a3⟩
  have A1 := hide a1
  have A2 := hide a2
  clear a1 a2 a3
  go_wp2_with fail
  refine (intCmp_at b 2 w.heap.size 0 q.den 1 L 2 _ (H.out.2.1.keep0 A1.out) A2.out).mono ?_
  rintro e w3 ⟨rfl, b1⟩
  have B1 := hide (gr_none A1.out b1)
  have ho := ord_one q.den q.den_pos
  clear b1
  generalize ord q.den 1 = oo at ho ⊢
  have HO := hide ho
  clear ho
  go_wp2
  go_ret
  refine ⟨?_, B1.out⟩
  rw [← HO.out]
  rfl

set_option maxHeartbeats 2000000 in
theorem denom_at (b : Nat) (q : Rat) (L : Nat) (w : World) (h : RQ w b q L) (hL : L ≤ 400000000) :
    Calls Tryz.prog 38 #[.pointer (some ⟨b, 0, none⟩)] w fun e w' => ∃ c, e = .returned (.pointer (some ⟨c, 0, none⟩)) ∧ IntAt w' c 0 (q.den : Int) L ∧ w.grownBy w' none := by
  have H := hide h
  clear h
  go_enter Tryz.func38, Tryz.ntmps38
  go_wp2_with fail
  have g1 := gr_alloc (gr_refl w none) (.cells #[.bool false, .slice none 0 0] 56)
  have H1 := hide (H.out.keep0 g1)
  refine (den_at b _ _ L _ H1.out).mono ?_
  rintro e w1 ⟨rfl, hw1⟩
  rw [hw1]
  clear hw1
  go_wp2_with fail
  refine (set_at w.heap.size 0 b 2 false (.slice none 0 0) (q.den : Int) L _ (newBox w) H1.out.2.1 (by omega)).mono ?_
  rintro e w2 ⟨rfl, k1, k2, k3⟩
  have G := hide (gr_of_put g1 k1 (Nat.le_refl _))
  have K2 := hide k2
  clear k1 k2 k3 g1
  go_wp2
  go_ret
  exact ⟨_, rfl, K2.out, G.out⟩

set_option maxHeartbeats 1000000 in
theorem intString_at (b o : Nat) (z : Int) (L : Nat) (w : World) (h : IntAt w b o z L) (hL : L ≤ 50000000) :
    Calls Tryz.prog 45 #[.pointer (some ⟨b, o, none⟩)] w fun e w' => e = .returned (.string ⟨(itext z).toArray⟩) ∧ w.grownBy w' none := by
  have H := hide h
  clear h
  go_enter Tryz.func45, Tryz.ntmps45
  go_wp2_with fail
  refine (intText_at b o z L _ H.out hL).mono ?_
  rintro e w1 ⟨rfl, g1⟩
  have G := hide g1
  clear g1
  go_wp2
  go_ret
  exact ⟨rfl, G.out⟩

set_option maxHeartbeats 1000000 in
theorem num_at (b : Nat) (q : Rat) (L : Nat) (w : World) (h : RQ w b q L) :
    Calls Tryz.prog 44 #[.pointer (some ⟨b, 0, none⟩)] w fun e w' => e = .returned (.pointer (some ⟨b, 0, none⟩)) ∧ w' = w := by
  obtain ⟨n1, v1, b1, _⟩ := h.1
  have c0 := b1.c0
  clear b1 h
  go_enter Tryz.func44, Tryz.ntmps44
  go_wp2
  go_ret
  exact ⟨rfl, rfl⟩

theorem itext_nat (n : Nat) : itext (n : Int) = Lib.decDigits n := by
  unfold itext
  rw [if_neg (by omega), Int.natAbs_natCast]

theorem qtext_eq (q : Rat) : qtext q = itext q.num ++ (if q.den = 1 then [] else [47] ++ itext (q.den : Int)) := by
  rw [itext_nat]
  unfold qtext itext rB rN
  by_cases h : q.num < 0
  · simp [h]
  · simp [h]

theorem itext_len {w : World} {b o : Nat} {z : Int} {L : Nat} (h : IntAt w b o z L) (hL : L ≤ 10000000) : (itext z).length ≤ 100000002 := by
  obtain ⟨_, _, _, h2, _⟩ := h
  have h3 := num_lt h2
  have h4 : (Lib.decDigits z.natAbs).length ≤ 100000001 := by
    rw [Lib.decDigits_length]
    rcases Nat.eq_zero_or_pos L with e | e
    · subst e
      have : z.natAbs = 0 := by simpa using h3
      rw [this, Lib.nDigits_small (by decide)]
      omega
    · have := digits_le e h3
      omega
  unfold itext
  split
  · simp; omega
  · omega

set_option maxHeartbeats 4000000 in
theorem rT_at (b : Nat) (q : Rat) (L : Nat) (w : World) (h : RQ w b q L) (hL : L ≤ 10000000) :
    Calls Tryz.prog 10 #[.pointer (some ⟨b, 0, none⟩)] w fun e w' => e = .returned (.string ⟨(qtext q).toArray⟩) ∧ w.grownBy w' none := by
  have H := hide h
  have hl1 := itext_len h.1 hL
  have hl2 := itext_len h.2.1 hL
  obtain ⟨A, hA⟩ : ∃ l, l = itext q.num := ⟨_, rfl⟩
  obtain ⟨B, hB⟩ : ∃ l, l = itext (q.den : Int) := ⟨_, rfl⟩
  have HQ : Hid (qtext q = A ++ (if q.den = 1 then [] else [47] ++ B)) := by show _ = _; rw [hA, hB]; exact qtext_eq q
  rw [← hA] at hl1
  rw [← hB] at hl2
  have HA := hide hA
  have HB := hide hB
  clear h hA hB
  go_enter Tryz.func10, Tryz.ntmps10
  go_wp2_with fail
  refine (isInt_at b q L _ H.out).mono ?_
  rintro e w1 ⟨rfl, g1⟩
  have G1 := hide g1
  have H1 := hide (H.out.keep0 g1)
  clear g1
  by_cases hd : q.den = 1
  · rw [decide_eq_true hd]
    have HQ2 := HQ.out
    rw [if_pos hd, List.append_nil] at HQ2
    have HQ3 := hide HQ2
    clear HQ2 HQ hd
    go_wp2_with fail
    refine (num_at b q L _ H1.out).mono ?_
    rintro e wn ⟨rfl, hwn⟩
    rw [hwn]
    clear hwn
    go_wp2_with fail
    refine (intString_at b 0 q.num L _ H1.out.1 (by omega)).mono ?_
    rintro e w2 ⟨rfl, g2⟩
    have G2 := hide (gr_none G1.out g2)
    clear g2
    rw [← HA.out]
    go_wp2
    go_ret
    rw [HQ3.out]
    exact ⟨rfl, G2.out⟩
  · rw [decide_eq_false hd]
    have HQ2 := HQ.out
    rw [if_neg hd] at HQ2
    have HQ3 := hide HQ2
    clear HQ2 HQ hd
    go_wp2_with fail
    refine (num_at b q L _ H1.out).mono ?_
    rintro e wn ⟨rfl, hwn⟩
    rw [hwn]
    clear hwn
    go_wp2_with fail
    refine (intString_at b 0 q.num L _ H1.out.1 (by omega)).mono ?_
    rintro e w2 ⟨rfl, g2⟩
    have G2 := hide (gr_none G1.out g2)
    have H2 := hide (H1.out.keep0 g2)
    clear g2
    rw [← HA.out]
    go_wp2_with fail
    refine (denom_at b q L _ H2.out (by omega)).mono ?_
    rintro e w3 ⟨c, rfl, c1, c2⟩
    have C1 := hide c1
    have G3 := hide (gr_none G2.out c2)
    clear c1 c2
    go_wp2_with fail
    refine (intString_at c 0 (q.den : Int) L _ C1.out (by omega)).mono ?_
    rintro e w4 ⟨rfl, g4⟩
    have G4 := hide (gr_none G3.out g4)
    clear g4
    rw [← HB.out]
    go_wp2
    go_ret
    rw [HQ3.out]
    refine ⟨?_, G4.out⟩
    first | rfl | (simp; apply ByteArray.ext; simp [ByteArray.data_append])
end Go.Proofs.YtgdiepfknfnmjaaGreatDoor

namespace Go.Proofs.YtgdiepfknfnmjaaGreatDoor
open Go.RowKit
set_option linter.unusedVariables false
set_option linter.unusedSimpArgs false

set_option maxHeartbeats 2000000 in
theorem ratSet_new (bz b : Nat) (n1 n2 : Bool) (v1 v2 : Value) (x : Int) (y L : Nat) (w : World) (hz1 : Box w bz 0 n1 v1) (hz2 : Box w bz 2 n2 v2) (h : RatAt w b x y L) (hL : L ≤ 400000000) :
    Calls Tryz.prog 98 #[.pointer (some ⟨bz, 0, none⟩), .pointer (some ⟨b, 0, none⟩)] w fun e w' => e = .returned (.pointer (some ⟨bz, 0, none⟩)) ∧ RPut w w' bz ∧ RatAt w' bz x y (L + 2) := by
  have H := hide h
  have B1 := hide hz1
  have B2 := hide hz2
  have hlow := low_self h.2.2.2
  have HLOW := hide hlow
  clear h hz1 hz2 hlow
  go_enter Tryz.func98, Tryz.ntmps98
  go_wp2
  go_region_with (first | (go_at_call 81; refine (den_at b x y L _ (H.out.keep0 (gr_dn _))).mono ?_; rintro e w1 ⟨rfl, rfl⟩) | (go_at_call 50; refine (setFrac_pos bz b 0 b 2 n1 n2 v1 v2 x y L _ (B1.out.keep0 (gr_dn _)) (B2.out.keep0 (gr_dn _)) (H.out.1.keep0 (gr_dn _)) (H.out.2.1.keep0 (gr_dn _)) H.out.2.2.1 hL).mono ?_; rintro e w2 ⟨rfl, a1, a2⟩))
  all_goals go_wp2
  all_goals go_ret
  all_goals rw [HLOW.out.1, HLOW.out.2] at a2
  all_goals exact ⟨rfl, (RPut.of_gr (gr_dn _)).trans a1, a2⟩

set_option maxHeartbeats 2000000 in
theorem ratNeg_new (bz b : Nat) (n1 n2 : Bool) (v1 v2 : Value) (x : Int) (y L : Nat) (w : World) (hz1 : Box w bz 0 n1 v1) (hz2 : Box w bz 2 n2 v2) (h : RatAt w b x y L) (hL : L ≤ 400000000) :
    Calls Tryz.prog 51 #[.pointer (some ⟨bz, 0, none⟩), .pointer (some ⟨b, 0, none⟩)] w fun e w' => e = .returned (.pointer (some ⟨bz, 0, none⟩)) ∧ RPut w w' bz ∧ RatAt w' bz (-x) y (L + 2) := by
  have H := hide h
  have Z1 := hide hz1
  have Z2 := hide hz2
  clear h hz1 hz2
  go_enter Tryz.func51, Tryz.ntmps51
  go_wp2_with fail
  refine (ratSet_new bz b n1 n2 v1 v2 x y L w Z1.out Z2.out H.out hL).mono ?_
  rintro e w1 ⟨rfl, a1, a2⟩
  obtain ⟨n3, v3, b1, _⟩ := a2.1
  have A1 := hide a1
  have A2 := hide a2
  have B1 := hide b1
  clear a1 a2 b1
  go_wp2
  go_region_with (go_at_call 99; refine (neg_at bz 0 bz 0 n3 v3 x (L + 2) _ (B1.out.keep0 (gr_dn _)) (A2.out.1.keep0 (gr_dn _)) (by omega)).mono ?_; rintro e w2 ⟨rfl, c1, c2, c3⟩)
  all_goals go_wp2
  all_goals go_ret
  all_goals refine ⟨rfl, A1.out.trans ((RPut.of_gr (gr_dn _)).trans (RPut.of_put c1)), c2, ?_, A2.out.2.2.1, by rw [Int.natAbs_neg]; exact A2.out.2.2.2⟩
  all_goals refine (A2.out.2.1.keep0 (gr_dn _)).keep c1 (.inr (.inr (by omega))) ?_
  all_goals (intro v hv e; obtain ⟨n2, v2, b2, b3, b4, b5⟩ := A2.out.2.1; have e2 := b2.c1; simp at e2 hv; rw [e2] at hv; exact b5 (by rw [Option.some.inj hv]; exact e))

set_option maxHeartbeats 2000000 in
theorem rNeg_at (b : Nat) (q : Rat) (L : Nat) (w : World) (h : RQ w b q L) (hL : L ≤ 400000000) :
    Calls Tryz.prog 28 #[.pointer (some ⟨b, 0, none⟩)] w fun e w' => RQE w (-q) (L + 2) e w' := by
  have H := hide h
  clear h
  go_enter Tryz.func28, Tryz.ntmps28
  go_wp2_with fail
  have g1 := gr_alloc (gr_refl w none) (.cells #[.bool false, .slice none 0 0, .bool false, .slice none 0 0] 60)
  refine (ratNeg_new w.heap.size b false false (.slice none 0 0) (.slice none 0 0) _ _ L _ (newRatB w).1 (newRatB w).2 (H.out.keep0 g1) hL).mono ?_
  rintro e w1 ⟨rfl, a1, a2⟩
  have A1 := hide a1
  have A2 := hide a2
  clear a1 a2 g1
  go_wp2
  go_ret
  exact ⟨_, rfl, A2.out, gr_rput (gr_alloc (gr_refl _ _) _) A1.out (Nat.le_refl _), Nat.le_refl _⟩
end Go.Proofs.YtgdiepfknfnmjaaGreatDoor

namespace Go.Proofs.YtgdiepfknfnmjaaGreatDoor
open Go.RowKit
set_option linter.unusedVariables false
set_option linter.unusedSimpArgs false

set_option maxHeartbeats 1000000 in
theorem rF_at (c a : Int) (w : World) :
    Calls Tryz.prog 21 #[.int .i64 c, .int .i64 a] w fun e w' => e = .returned (.agg #[.int .i64 c, .int .i64 a]) ∧ w.grownBy w' none := by
  go_enter Tryz.func21, Tryz.ntmps21
  go_wp2
  refine bodyPost_ret (v := .agg #[.int .i64 c, .int .i64 a]) (by simp [results, Tryz.results21, go_sem]) rfl ?_
  exact ⟨rfl, gr_alloc (gr_refl _ _) _⟩

set_option maxHeartbeats 1000000 in
theorem bad_at (a : Int) (w : World) :
    Calls Tryz.prog 22 #[.int .i64 a] w fun e w' => e = .returned (parV ([], [], 1, a)) ∧ w.grownBy w' none := by
  obtain ⟨c0, c1, cf⟩ := flt_cells (w := w) (a := .int .i64 0) (b := .int .i64 0) (gr_refl _ _)
  obtain ⟨W, hW⟩ : ∃ W, W = w.alloc (Obj.cells #[.int .i64 0, .int .i64 0] 26) := ⟨_, rfl⟩
  have GW : Hid (w.grownBy W none) := by rw [hW]; exact gr_alloc (gr_refl _ _) _
  have FC : Hid (∀ wx, W.grownBy wx none → wx.cell? ⟨w.heap.size, 0, none⟩ = some (.int .i64 0) ∧ wx.cell? ⟨w.heap.size, 1, none⟩ = some (.int .i64 0) ∧ wx.frozen? ⟨w.heap.size, 0, none⟩ = false ∧ wx.frozen? ⟨w.heap.size, 1, none⟩ = false) := by
    intro wx hg
    rw [hW] at hg
    obtain ⟨a, b, c⟩ := flt_cells hg
    exact ⟨a, b, c 0, c 1⟩
  clear c0 c1 cf
  go_enter Tryz.func22, Tryz.ntmps22
  go_wp2_with fail
  rw [← hW]
  clear hW
  refine (rF_at 1 a _).mono ?_
  rintro e w1 ⟨rfl, g1⟩
  obtain ⟨f0, f1, f2, f3⟩ := FC.out w1 g1
  have G1 := hide (gr_none GW.out g1)
  clear g1
  go_wp2
  refine bodyPost_ret (v := parV ([], [], 1, a)) (by simp [results, Tryz.results22, go_sem, f0, f1, parV]) rfl ?_
  exact ⟨rfl, gr_set (gr_set G1.out _ _ (by simp)) _ _ (by simp)⟩

set_option maxHeartbeats 1000000 in
theorem rEnd_at (s : ByteArray) (k0 b : Nat) (w : World) (hs : s.size ≤ 1000000000) (hk0 : k0 ≤ s.size) (hc : w.cell? ⟨b, 0, none⟩ = some (.string s)) :
    Calls Tryz.prog 23 #[.int .i64 (k0 : Nat), .pointer (some ⟨b, 0, none⟩)] w fun e w' => e = .returned (.int .i64 ((k0 + runD (s.data.toList.drop k0) : Nat) : Int)) ∧ w' = w := by
  obtain ⟨E, hE⟩ : ∃ E, k0 + runD (s.data.toList.drop k0) = E := ⟨_, rfl⟩
  rw [hE]
  have HE := hide hE
  clear hE
  go_enter Tryz.func23, Tryz.ntmps23
  go_wp2
  go_loop [0] (fun v => EndR s E v) (fun v => s.size - (intOf v).toNat)
  case atStart => exact ⟨k0, hk0, rfl, HE.out⟩
  case round =>
    obtain ⟨k, hk, rfl, HK⟩ := hrel
    by_cases hlt : k < s.size
    · have hd := drop_byte s k hlt
      have HDR := hide hd
      clear hd
      by_cases h1 : 48 ≤ s[k].toNat
      · by_cases h2 : s[k].toNat ≤ 57
        · have h1' : (48 : Int) ≤ (s[k].toNat : Int) := by omega
          have h2' : (s[k].toNat : Int) ≤ 57 := by omega
          go_wp2
          go_round
          case rel =>
            refine ⟨k + 1, by omega, by go_num, ?_⟩
            have := HK.out
            rw [HDR.out, runD_cons, if_pos (by simp [isD, h1, h2])] at this
            show _ = _
            omega
          case measure => simp [intOf]; omega
        · have h1' : (48 : Int) ≤ (s[k].toNat : Int) := by omega
          have h2' : ¬ (s[k].toNat : Int) ≤ 57 := by omega
          go_wp2
          go_ret
          refine ⟨?_, rfl⟩
          have := HK.out
          rw [HDR.out, runD_cons, if_neg (by simp [isD, h2])] at this
          rw [← this]
          rfl
      · have h1' : ¬ (48 : Int) ≤ (s[k].toNat : Int) := by omega
        go_wp2
        go_ret
        refine ⟨?_, rfl⟩
        have := HK.out
        rw [HDR.out, runD_cons, if_neg (by simp [isD, h1])] at this
        rw [← this]
        rfl
    · obtain rfl : k = s.size := by omega
      go_wp2
      go_ret
      refine ⟨?_, rfl⟩
      have := HK.out
      rw [List.drop_of_length_le (by simp)] at this
      rw [← this]
      rfl

/-- What readUnit's table answers. -/
def unitV (l : List UInt8) : Value := match unitR l with
  | some u => .tuple #[.string ⟨u.toArray⟩, .bool true]
  | none => .tuple #[.string ⟨#[]⟩, .bool false]

/-- The reference's table of units lies there. -/
def UM (w : World) : Prop := ∃ bm, w.cell? ⟨1, 0, none⟩ = some (.map (some bm)) ∧ bm < w.heap.size ∧ ∀ wx : World, wx.heap[bm]? = w.heap[bm]? → ∀ s : ByteArray, s.size ≤ 4000 → (Instr.lookup 67 (.map (some bm)) (.string s) true).run Tryz.prog wx = .ok (unitV s.data.toList) wx

/-- The reference's table of powers lies there. -/
def PM (w : World) : Prop := ∃ bm es clock, w.cell? ⟨0, 0, none⟩ = some (.map (some bm)) ∧ w.heap[bm]? = some (.map es clock) ∧ MapKept.Stamped es clock ∧
  (∀ x ∈ es.toList, ∃ p e, (p, e) ∈ pwL ∧ x.key = .string ⟨p.toArray⟩ ∧ x.val = .int .i64 e) ∧ (∀ p e, (p, e) ∈ pwL → ∃ x ∈ es.toList, x.key = .string ⟨p.toArray⟩ ∧ x.val = .int .i64 e)

theorem UM.keep0 {w w' : World} (h : UM w) (hg : w.grownBy w' none) : UM w' := by
  obtain ⟨bm, h1, h2, h3⟩ := h
  exact ⟨bm, hg.cell h1 (by simp), Nat.lt_of_lt_of_le h2 hg.size, fun wx hx => h3 wx (hx.trans (hg.block bm h2 (by simp)))⟩

theorem PM.keep0 {w w' : World} (h : PM w) (hg : w.grownBy w' none) : PM w' := by
  obtain ⟨bm, es, clock, h1, h2, h3⟩ := h
  exact ⟨bm, es, clock, hg.cell h1 (by simp), by rw [hg.block bm (Array.getElem?_eq_some_iff.1 h2).1 (by simp)]; exact h2, h3⟩

theorem pre_byte (s : ByteArray) (k : Nat) (c : UInt8) : Lib.hasPrefix (s.data.toList.drop k) [c] = true ↔ ∃ h : k < s.size, s[k] = c := by
  by_cases h : k < s.size
  · rw [drop_byte s k h]
    simp [Lib.hasPrefix, List.isPrefixOf, h]
    exact ⟨fun e => e.symm, fun e => e.symm⟩
  · rw [List.drop_of_length_le (by rw [Array.length_toList]; show s.size ≤ k; omega)]
    simp [Lib.hasPrefix, List.isPrefixOf, h]

end Go.Proofs.YtgdiepfknfnmjaaGreatDoor

namespace Go.Proofs.YtgdiepfknfnmjaaGreatDoor
open Go.RowKit
open Go.ChangeMaps (setBlock)
set_option linter.unusedVariables false
set_option linter.unusedSimpArgs false

/-- The round's iterator lies at r, and no entry that has come fits. -/
def Seen (w0 : World) (es : Array MapEntry) (clock bm r : Nat) (l : List UInt8) (plain : Bool) (wx : World) : Prop :=
  ∃ seen : Array Nat, wx.heap[r]? = some (.mapIter (some bm) clock seen clock) ∧ w0.grownBy wx none ∧ w0.heap.size ≤ r ∧
    ∀ x ∈ es.toList, seen.contains x.born = true → ∀ (PB : ByteArray) (e : Int) (u : List UInt8), x.key = .string PB → x.val = .int .i64 e → ¬ Fits l plain PB.data.toList e u

theorem seen_start {w0 w1 : World} {es : Array MapEntry} {clock bm : Nat} {l : List UInt8} {plain : Bool} (hg : w0.grownBy w1 none) :
    Seen w0 es clock bm w1.heap.size l plain (w1.alloc (.mapIter (some bm) clock #[] clock)) :=
  ⟨#[], heap_alloc_new w1 _, gr_alloc hg _, hg.size, fun x _ h => by simp at h⟩

theorem iter_seen {w : World} {r bm c1 c2 : Nat} {seen : Array Nat} (h : w.heap[r]? = some (.mapIter (some bm) c1 seen c2)) : w.iterSeen r = seen := by
  simp [World.iterSeen, h]

theorem gr_setBlock {w0 w1 : World} {r : Nat} {o : Obj} (h : w0.grownBy w1 none) (hr : w0.heap.size ≤ r) : w0.grownBy (setBlock w1 r o) none := by
  refine ⟨h.os, h.tape, h.output, ?_, fun k hk hne => ?_⟩
  · simp [setBlock]; exact h.size
  · have : r ≠ k := by omega
    rw [← h.block k hk hne]
    simp [setBlock, Array.getElem?_setIfInBounds, this]

theorem seen_next {w0 wr : World} {es : Array MapEntry} {clock bm r : Nat} {l : List UInt8} {plain : Bool} (h : Seen w0 es clock bm r l plain wr) (hb : w0.heap[bm]? = some (.map es clock)) (hst : MapKept.Stamped es clock)
    (h4 : ∀ x ∈ es.toList, ∃ p e, (p, e) ∈ pwL ∧ x.key = .string ⟨p.toArray⟩ ∧ x.val = .int .i64 e) (h5 : ∀ p e, (p, e) ∈ pwL → ∃ x ∈ es.toList, x.key = .string ⟨p.toArray⟩ ∧ x.val = .int .i64 e) :
    ((∀ p e u, ¬ Fits l plain p e u) ∧ w0.grownBy wr none ∧ ∀ ty, (Instr.next (.pointer (some ⟨r, 0, none⟩)) false ty).run Tryz.prog wr = .ok (.tuple #[.bool false]) wr) ∨
    ∃ (PB : ByteArray) (e : Int) (w2 : World), (PB.data.toList, e) ∈ pwL ∧ (∀ ty, (Instr.next (.pointer (some ⟨r, 0, none⟩)) false ty).run Tryz.prog wr = .ok (.tuple #[.bool true, .string PB, .int .i64 e]) w2) ∧
      (Instr.entry (.pointer (some ⟨r, 0, none⟩))).run Tryz.prog w2 = .ok (.tuple #[.string PB, .int .i64 e]) w2 ∧ w0.grownBy w2 none ∧
      ∀ n, (∀ u, ¬ Fits l plain PB.data.toList e u) → Seen w0 es clock bm r l plain (w2.drewN n) ∧ (leftOf es ((w2.drewN n).iterSeen r)).size < (leftOf es (wr.iterSeen r)).size := by
  obtain ⟨seen, h1, h2, h3, h6⟩ := h
  have hbl := (Array.getElem?_eq_some_iff.1 hb).1
  have hb1 : wr.heap[bm]? = some (.map es clock) := by rw [h2.block bm hbl (by simp)]; exact hb
  have hrl := (Array.getElem?_eq_some_iff.1 h1).1
  rcases run_next_at (P := Tryz.prog) wr 0 r bm clock clock seen es clock h1 hb1 hst.1 (Nat.le_refl _) with ⟨h0, hrun⟩ | ⟨x, hx, w1, hw1, hrun⟩
  · left
    refine ⟨fun p e u hf => ?_, h2, fun _ => hrun⟩
    obtain ⟨x, hx, hk, hv⟩ := h5 p e hf.1
    exact h6 x hx (all_seen es seen h0 x hx) ⟨p.toArray⟩ e u hk hv hf
  · right
    obtain ⟨hxe, hns⟩ := mem_left hx
    obtain ⟨p, e, hm, hk, hv⟩ := h4 x hxe
    rw [hk, hv] at hrun
    have hg1 : w0.grownBy w1 none := by
      rcases hw1 with rfl | rfl
      · exact h2
      · exact gr_none h2 gr_drew1
    have hs1 : w1.heap = wr.heap := by rcases hw1 with rfl | rfl <;> rfl
    have hr2 : (setBlock w1 r (.mapIter (some bm) clock (seen.push x.born) clock)).heap[r]? = some (.mapIter (some bm) clock (seen.push x.born) clock) := by
      simp [setBlock, hs1, hrl]
    have hg2 := gr_setBlock (o := .mapIter (some bm) clock (seen.push x.born) clock) hg1 h3
    have hb2 : (setBlock w1 r (.mapIter (some bm) clock (seen.push x.born) clock)).heap[bm]? = some (.map es clock) := by rw [hg2.block bm hbl (by simp)]; exact hb
    have hen := run_entry_at (P := Tryz.prog) _ r bm clock seen es clock x hr2 hb2 hxe hst.2.1
    rw [hk, hv] at hen
    refine ⟨⟨p.toArray⟩, e, _, hm, fun _ => hrun, hen, hg2, fun n hno => ⟨⟨seen.push x.born, hr2, gr_drewN hg2 n, h3, fun y hy hc => ?_⟩, ?_⟩⟩
    · rw [contains_push] at hc
      rcases Bool.or_eq_true _ _ ▸ hc with h1 | h1
      · exact h6 y hy h1
      · have : y = x := born_inj hst.2.1 hy hxe (beq_iff_eq.1 h1)
        subst this
        intro PB e' u hk' hv' hf
        rw [hk] at hk'
        rw [hv] at hv'
        cases hk'
        cases hv'
        exact hno u hf
    · rw [iter_seen (w := World.drewN _ n) hr2, iter_seen h1]
      exact left_shrinks es seen x hx

end Go.Proofs.YtgdiepfknfnmjaaGreatDoor
