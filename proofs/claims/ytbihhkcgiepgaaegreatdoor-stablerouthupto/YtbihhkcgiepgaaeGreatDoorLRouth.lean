/- The law StableRouth, whatever the polynomial. -/
import Derived.Test.YtbihhkcgiepgaaeGreatDoorMTc
import Derived.Test.YtbihhkcgiepgaaeGreatDoorMBf
import Derived.Deep.RegionHeld3
namespace Go.Proofs.YtbihhkcgiepgaaeGreatDoor
open Go.RowKit
set_option linter.unusedVariables false
set_option linter.unusedSimpArgs false

theorem sgn_sign (z : Int) : sgn z = z.sign := by
  unfold sgn
  rcases Int.lt_trichotomy z 0 with h | h | h
  · rw [Int.sign_eq_neg_one_of_neg h]; simp [h]
  · subst h; rfl
  · rw [Int.sign_eq_one_of_pos h]
    simp [h]
    omega

/-- The reference's Of of a number's text. -/
theorem ofT_at (q : Rat) (w : World) (hf : FitW 100000000 q) (hml : MLen w) :
    Calls Tryz.prog 10 #[.string ⟨(qtext q).toArray⟩] w fun e w' => ∃ b L, e = .returned (.pointer (some ⟨b, 0, none⟩)) ∧ w.grownBy w' none ∧ IntAt w' b 0 q.num L := by
  have hlen := qtext_len (q := q) (L := 100000000) hf (by decide)
  obtain ⟨m, hm⟩ := hml
  refine (refOf_at ⟨(qtext q).toArray⟩ m w (by show (qtext q).toArray.size ≤ _; simp; omega) hm).mono ?_
  rintro e w' ⟨b, rfl, g, _, h, _⟩
  have e0 : ofQ (⟨(qtext q).toArray⟩ : ByteArray).data.toList = (rB q, rN q, q.den) := by
    rw [ofQ_R]
    have e1 : ofR (⟨(qtext q).toArray⟩ : ByteArray).data.toList = q := ofR_qtext q
    rw [e1]
  rw [e0] at h
  have e2 : sg (rB q) (rN q) = q.num := rat_sgn q
  simp only [e2] at h
  exact ⟨b, _, rfl, g, h⟩

/-- The bytes of a text of a list. -/
def sizeAt (ls : List ByteArray) : Nat → Nat := fun i => match ls[i]? with | some s => s.size | none => 0
def wordsAt (ls : List ByteArray) : Nat → Nat := fun i => sizeAt ls i / 8 + 2

theorem sizeAt_at {ls : List ByteArray} {i : Nat} (h : i < ls.length) : sizeAt ls i = (ls[i]).size := by
  unfold sizeAt
  rw [List.getElem?_eq_getElem h]

theorem sum_words (ls : List ByteArray) : ∀ n, 8 * sumW (wordsAt ls) n ≤ sumW (sizeAt ls) n + 16 * n
  | 0 => by simp [sumW]
  | n + 1 => by
    have ih := sum_words ls n
    show 8 * (sumW (wordsAt ls) n + wordsAt ls n) ≤ sumW (sizeAt ls) n + sizeAt ls n + 16 * (n + 1)
    unfold wordsAt at ih ⊢
    omega

theorem sizeAt_cons (s : ByteArray) (ls : List ByteArray) (i : Nat) : sizeAt (s :: ls) (i + 1) = sizeAt ls i := by
  unfold sizeAt
  simp

theorem sumW_shift (f : Nat → Nat) : ∀ n, sumW f (n + 1) = f 0 + sumW (fun i => f (i + 1)) n
  | 0 => by simp [sumW]
  | n + 1 => by
    have ih := sumW_shift f n
    show sumW f (n + 1) + f (n + 1) = f 0 + (sumW (fun i => f (i + 1)) n + f (n + 1))
    omega

theorem sum_sizes : ∀ (ls : List ByteArray) (n : Nat), sumW (sizeAt ls) n ≤ (ls.map fun s => s.size).sum
  | [], n => by
    have : ∀ n, sumW (sizeAt []) n = 0 := by
      intro n
      induction n with
      | zero => rfl
      | succ n ih =>
        show sumW (sizeAt []) n + sizeAt [] n = 0
        rw [ih]
        rfl
    rw [this]
    exact Nat.zero_le _
  | s :: ls, 0 => Nat.zero_le _
  | s :: ls, n + 1 => by
    have ih := sum_sizes ls n
    rw [sumW_shift]
    have e : (fun i => sizeAt (s :: ls) (i + 1)) = sizeAt ls := funext fun i => sizeAt_cons s ls i
    rw [e]
    show s.size + _ ≤ _
    simp only [List.map_cons, List.sum_cons]
    omega

theorem size_le {ls : List ByteArray} {i : Nat} (h : i < ls.length) : (ls[i]).size ≤ (ls.map fun s => s.size).sum := by
  have h1 := sum_sizes ls (i + 1)
  have h2 : sumW (sizeAt ls) (i + 1) = sumW (sizeAt ls) i + sizeAt ls i := rfl
  rw [h2, sizeAt_at h] at h1
  omega

theorem words_fit (ls : List ByteArray) (i : Nat) : FitW (wordsAt ls i) (polyQ ls i) := by
  unfold wordsAt
  by_cases hi : i < ls.length
  · rw [sizeAt_at hi]
    rw [polyQ_at hi]
    have h := ofR_fit (ls[i]).data.toList
    have e : (ls[i]).data.toList.length = (ls[i]).size := (Lib.size_eq _).symm
    rw [e] at h
    exact h
  · rw [polyQ_out (by omega)]
    exact fit_zero (by omega)

theorem words_small {ls : List ByteArray} (ht : (ls.map fun s => s.size).sum ≤ 1048576) {n : Nat} (hn : n ≤ 13) : sumW (wordsAt ls) n + 1 ≤ 262200 ∧ ∀ i, i < n → wordsAt ls i + sumW (wordsAt ls) n + 1 ≤ 262200 := by
  have h1 := sum_words ls n
  have h2 := sum_sizes ls n
  refine ⟨by omega, fun i hi => ?_⟩
  have h3 : wordsAt ls i ≤ 131074 := by
    unfold wordsAt
    have h4 := sum_sizes ls (i + 1)
    have h5 : sumW (sizeAt ls) (i + 1) = sumW (sizeAt ls) i + sizeAt ls i := rfl
    omega
  omega

theorem rowT_cells {w : World} {n cap : Nat} {ao : Option Addr} {V : Nat → Rat} {m : Nat} (h : RowG sv w (.slice ao n cap) (textsL V m)) (hn : n = (textsL V m).length) (h0 : 0 < m) : ∃ g off, ao = some ⟨g, off, none⟩ ∧ ∀ j, j < m → w.cell? ⟨g, off + j, none⟩ = some (.string ⟨(qtext (V j)).toArray⟩) := by
  obtain ⟨ao', cap', e, _, _, hr⟩ := h
  injection e with e1 e2 e3
  subst e1
  obtain ⟨b, off, rfl, _, _⟩ := hr 0 (by rw [textsL_length]; exact h0)
  refine ⟨b, off, rfl, fun j hj => ?_⟩
  obtain ⟨b', off', e4, _, hc⟩ := hr j (by rw [textsL_length]; exact hj)
  have e5 := Option.some.inj e4
  simp only [Addr.mk.injEq, and_true] at e5
  obtain ⟨rfl, rfl⟩ := e5
  rw [hc]
  simp [textsL]

def LawR (W : World) (F : Nat → Rat) (N : Nat) (v9 v10 : Value) (wr : World) : Prop :=
  ∃ i : Nat, i ≤ N ∧ v10 = .int .i64 ((i : Int) + 1) ∧ v9 = .int .i64 ((chgN F i : Nat) : Int) ∧ chgN F i ≤ i ∧ W.grownBy wr none

theorem chgN_le (F : Nat → Rat) : ∀ n, chgN F n ≤ n
  | 0 => Nat.le_refl _
  | n + 1 => by
    have := chgN_le F n
    unfold chgN
    split <;> omega

set_option maxHeartbeats 8000000 in
set_option maxRecDepth 10000 in
theorem routhLaw_any (v : Value) (ls : List ByteArray) (w : World) (hl : RowG sv w v ls) (htot : (ls.map fun s => s.size).sum ≤ 1048576) (hml : MLen w) (ht : Tab10 w) :
    Calls Tryz.prog 4 #[v] w fun e w' => e = .returned (.bool true) ∧ w.grownBy w' none := by
  have HL := hide hl
  have HM := hide hml
  have HT := hide ht
  have HTOT := hide htot
  obtain ⟨ao, cap, rfl, hc, hm, _⟩ := hl
  clear hml ht htot
  go_enter Tryz.func4, Tryz.ntmps4
  go_wp2_with fail
  refine (sided_at w HM.out HT.out).mono ?_
  rintro e w1 ⟨rfl, g1⟩
  have G1 := hide g1
  clear g1
  go_wp2_with fail
  refine (routh_at _ ls 262200 (wordsAt ls) w1 (HL.out.keep G1.out) (HM.out.keep0 G1.out) (HT.out.keep0 G1.out) (fun _ i hi => by have := size_le hi; have := HTOT.out; omega) (fun _ i => words_fit ls i) (fun h n hn => words_small HTOT.out (by omega)) (Nat.le_refl _)).mono ?_
  rintro e w2 ⟨g2, hR⟩
  have G2 := hide (gr_none G1.out g2)
  clear g2
  have CNT := count_at (.slice ao ls.length cap) ls 131074 1000000000000 w2 (HL.out.keep G2.out) (HM.out.keep0 G2.out) (fun _ i hi => by have := size_le hi; have := HTOT.out; omega) (by decide) (Nat.le_refl _) vB_small
  rcases hR with ⟨hbig, rfl⟩ | ⟨hsm, hz, rfl⟩ | ⟨hsm, N, hN, hp, h3⟩
  · have HC := hide CNT
    clear CNT
    go_wp2_with fail
    refine HC.out.mono ?_
    rintro e w3 ⟨g3, a, b, c, f, rfl, _⟩
    have G3 := hide (gr_none G2.out g3)
    clear g3
    go_wp2
    go_ret
    exact ⟨rfl, G3.out⟩
  · have HC := hide CNT
    clear CNT hz
    go_wp2_with fail
    refine HC.out.mono ?_
    rintro e w3 ⟨g3, a, b, c, f, rfl, _⟩
    have G3 := hide (gr_none G2.out g3)
    clear g3
    go_wp2
    go_ret
    exact ⟨rfl, G3.out⟩
  · have HC := hide CNT
    have HP := hide hp
    have HSM := hide hsm
    clear CNT hp hsm
    rcases h3 with ⟨_, rfl⟩ | ⟨hz, hf, v2, rfl, hrow⟩
    · go_wp2_with fail
      refine HC.out.mono ?_
      rintro e w3 ⟨g3, a, b, c, f, rfl, _⟩
      have G3 := hide (gr_none G2.out g3)
      clear g3
      go_wp2
      go_ret
      exact ⟨rfl, G3.out⟩
    · have HZ := hide hz
      have HF := hide hf
      have HROW := hide hrow
      obtain ⟨ro, rc, rfl, hrc, hrm, _⟩ := hrow
      obtain ⟨rl, hrl⟩ : ∃ rl, rl = (textsL (fstR (polyQ ls) (N + 1)) (N + 1)).length := ⟨_, rfl⟩
      have hrl2 : rl = N + 1 := by rw [hrl, textsL_length]
      have HRL := hide hrl
      rw [← hrl] at hrc HROW ⊢
      unfold maxLen at hrm
      subst hrl2
      clear hz hf hrl
      go_wp2_with fail
      refine HC.out.mono ?_
      rintro e w3 ⟨g3, a, b, c, f, rfl, hcnt⟩
      have G3 := hide (gr_none G2.out g3)
      have ROW3 := hide (HROW.out.keep g3)
      have CV : f = 0 ∧ b = 0 ∧ c = (chgN (fstR (polyQ ls) (N + 1)) N : Nat) := by
        rcases hcnt with ⟨h, _⟩ | ⟨_, h, _⟩ | ⟨_, n, h1, h2, h3, h4, h5⟩
        · have := HSM.out
          omega
        · have := PL_uniq h HP.out
          omega
        · have hn := PL_uniq h3 HP.out
          subst hn
          obtain ⟨k1, k2, _⟩ := cnt_routh HP.out HZ.out h5
          exact ⟨h4, k1, k2⟩
      obtain ⟨rfl, rfl, rfl⟩ := CV
      clear g3 hcnt HC
      obtain ⟨g, off, ero, hcell⟩ := rowT_cells ROW3.out HRL.out (by omega)
      subst ero
      have CELL := hide hcell
      clear hcell
      go_wp2
      go_loopw [9, 10] (fun v9 v10 wr => Hid (LawR w3 (fstR (polyQ ls) (N + 1)) N v9 v10 wr)) (fun _ v10 _ => N + 2 - (intOf v10).toNat)
      case atStart => exact ⟨0, by omega, by first | rfl | simp, rfl, Nat.le_refl _, gr_refl _ _⟩
      case round =>
        obtain ⟨i, hi, rfl, rfl, hci, l2⟩ := hrel.out
        have L2 := hide l2
        clear l2 hrel
        have F1 := HF.out
        by_cases hlt : i < N
        · have hlt1 : ((i : Nat) : Int) + 1 < ((N + 1 : Nat) : Int) := by omega
          have hlt2 : (0 : Int) ≤ ((i : Nat) : Int) + 1 := by omega
          have hlt3 : (0 : Int) ≤ ((i : Nat) : Int) := by omega
          have hlt4 : ((i : Nat) : Int) < ((N : Nat) : Int) + 1 := by omega
          have CX0 := CELL.out i (by omega)
          have CX1 := CELL.out (i + 1) (by omega)
          have OFp : Hid (∀ wx, MLen wx → Calls Tryz.prog 10 #[.string ⟨(qtext (fstR (polyQ ls) (N + 1) (i + 1))).toArray⟩] wx fun e w' => ∃ b L, e = .returned (.pointer (some ⟨b, 0, none⟩)) ∧ wx.grownBy w' none ∧ IntAt w' b 0 (fstR (polyQ ls) (N + 1) (i + 1)).num L) := fun wx h => ofT_at _ wx (F1 (i + 1) (by omega)) h
          have OFq : Hid (∀ wx, MLen wx → Calls Tryz.prog 10 #[.string ⟨(qtext (fstR (polyQ ls) (N + 1) i)).toArray⟩] wx fun e w' => ∃ b L, e = .returned (.pointer (some ⟨b, 0, none⟩)) ∧ wx.grownBy w' none ∧ IntAt w' b 0 (fstR (polyQ ls) (N + 1) i).num L) := fun wx h => ofT_at _ wx (F1 i (by omega)) h
          obtain ⟨S, hS⟩ : ∃ S, S = (⟨(qtext (fstR (polyQ ls) (N + 1) (i + 1))).toArray⟩ : ByteArray) := ⟨_, rfl⟩
          obtain ⟨T, hT⟩ : ∃ T, T = (⟨(qtext (fstR (polyQ ls) (N + 1) i)).toArray⟩ : ByteArray) := ⟨_, rfl⟩
          rw [← hS] at CX1 OFp
          rw [← hT] at CX0 OFq
          obtain ⟨z1, hz1⟩ : ∃ z1, z1 = (fstR (polyQ ls) (N + 1) (i + 1)).num := ⟨_, rfl⟩
          obtain ⟨z2, hz2⟩ : ∃ z2, z2 = (fstR (polyQ ls) (N + 1) i).num := ⟨_, rfl⟩
          rw [← hz1] at OFp
          rw [← hz2] at OFq
          have HZZ : Hid (z1 = (fstR (polyQ ls) (N + 1) (i + 1)).num ∧ z2 = (fstR (polyQ ls) (N + 1) i).num) := ⟨hz1, hz2⟩
          obtain ⟨cn, hcn⟩ : ∃ cn, cn = chgN (fstR (polyQ ls) (N + 1)) i := ⟨_, rfl⟩
          have HCN := hide hcn
          rw [← hcn] at hci ⊢
          clear hS hT hz1 hz2 hcn F1
          have CX : Hid (∀ wx, wr.grownBy wx none → wx.cell? ⟨g, off + (i + 1), none⟩ = some (.string S) ∧ wx.cell? ⟨g, off + i, none⟩ = some (.string T)) := by
            intro wx hg
            have hg2 := gr_none L2.out hg
            exact ⟨hg2.cell CX1 (by simp), hg2.cell CX0 (by simp)⟩
          clear CX0 CX1
          have GG : wr.grownBy wr none := gr_refl _ _
          obtain ⟨s1, s2⟩ := CX.out wr GG
          have hw1 : IntKind.i64.wrap (((i : Nat) : Int) + 1 - 1) = ((i : Nat) : Int) := by rw [IntWalk.i64_in _ ⟨by omega, by omega⟩]; omega
          have hw2 : IntKind.i64.wrap ((i : Nat) : Int) = ((i : Nat) : Int) := IntWalk.i64_in _ ⟨by omega, by omega⟩
          go_upto_region 11 with fail
          go_region_held3 (fun w' => w'.cell? ⟨g, off + (i + 1), none⟩ = some (.string S) ∧ w'.cell? ⟨g, off + i, none⟩ = some (.string T)) (go_keep)
            (first | (go_at_call_of 10 (Value.string S); refine (OFp.out _ (HM.out.keep0 (gr_none G3.out (gr_none L2.out (by first | exact gr_none GG (gr_d _) | exact gr_none GG gr_d1 | exact GG))))).mono ?_; rintro e wp ⟨bp, Lp, rfl, gp, xp⟩; have Xp := hide xp; (try have Xq := hide (Xq.out.keep0 (gr_none (by first | exact gr_d _ | exact gr_d1 | exact gr_refl _ _) gp))); have GG : wr.grownBy wp none := gr_none (by first | exact gr_none GG (gr_d _) | exact gr_none GG gr_d1 | exact GG) gp; obtain ⟨cp1, cp2⟩ := CX.out wp GG; clear xp gp) | (go_at_call_of 10 (Value.string T); refine (OFq.out _ (HM.out.keep0 (gr_none G3.out (gr_none L2.out (by first | exact gr_none GG (gr_d _) | exact gr_none GG gr_d1 | exact GG))))).mono ?_; rintro e wq ⟨bq, Lq, rfl, gq, xq⟩; have Xq := hide xq; (try have Xp := hide (Xp.out.keep0 (gr_none (by first | exact gr_d _ | exact gr_d1 | exact gr_refl _ _) gq))); have GG : wr.grownBy wq none := gr_none (by first | exact gr_none GG (gr_d _) | exact gr_none GG gr_d1 | exact GG) gq; obtain ⟨cq1, cq2⟩ := CX.out wq GG; clear xq gq) | (go_at_call_of 11 (Value.pointer (some ⟨bp, 0, none⟩)); refine (ratSign_at bp z1 _ _ (Xp.out.keep0 (by first | exact gr_d _ | exact gr_d1 | exact gr_refl _ _))).mono ?_; rintro e wsp ⟨rfl, hwsp⟩; rw [hwsp]; clear hwsp) | (go_at_call_of 11 (Value.pointer (some ⟨bq, 0, none⟩)); refine (ratSign_at bq z2 _ _ (Xq.out.keep0 (by first | exact gr_d _ | exact gr_d1 | exact gr_refl _ _))).mono ?_; rintro e wsq ⟨rfl, hwsq⟩; rw [hwsq]; clear hwsq))
          all_goals
            have HGG := hide GG
            clear GG hw1 hw2
            have hci2 := chgN_le (fstR (polyQ ls) (N + 1)) (i + 1)
            have ecs : chgN (fstR (polyQ ls) (N + 1)) (i + 1) = chgN (fstR (polyQ ls) (N + 1)) i + (if (fstR (polyQ ls) (N + 1) (i + 1)).num.sign = (fstR (polyQ ls) (N + 1) i).num.sign then 0 else 1) := rfl
            rw [← HCN.out, ← HZZ.out.1, ← HZZ.out.2, ← sgn_sign z1, ← sgn_sign z2] at ecs
            by_cases hs : sgn z1 = sgn z2
            · have EC : Hid (chgN (fstR (polyQ ls) (N + 1)) (i + 1) = cn) := by show _ = _; rw [ecs, if_pos hs]; rfl
              have hb : (sgn z1 != sgn z2) = false := by simp [hs]
              clear ecs hs hci2
              generalize sgn z1 = y1 at hb ⊢
              generalize sgn z2 = y2 at hb ⊢
              go_wp2
              go_roundw
              case rel => exact ⟨i + 1, by omega, by first | rfl | go_num | (simp only [Value.int.injEq, true_and]; omega), by rw [EC.out], by rw [EC.out]; omega, gr_none L2.out (gr_none HGG.out (by first | exact gr_d _ | exact gr_d1 | exact gr_refl _ _))⟩
              case measure => simp [intOf]; omega
            · have EC : Hid (chgN (fstR (polyQ ls) (N + 1)) (i + 1) = cn + 1) := by show _ = _; rw [ecs, if_neg hs]
              have hb : (sgn z1 != sgn z2) = true := by simp [hs]
              clear ecs hs hci2
              generalize sgn z1 = y1 at hb ⊢
              generalize sgn z2 = y2 at hb ⊢
              go_wp2
              go_roundw
              case rel => exact ⟨i + 1, by omega, by first | rfl | go_num | (simp only [Value.int.injEq, true_and]; omega), by rw [EC.out]; first | rfl | go_num | (simp only [Value.int.injEq, true_and]; omega), by rw [EC.out]; omega, gr_none L2.out (gr_none HGG.out (by first | exact gr_d _ | exact gr_d1 | exact gr_refl _ _))⟩
              case measure => simp [intOf]; omega
        · obtain rfl : i = N := by omega
          have hlt1 : ¬ ((i : Nat) : Int) + 1 < ((i + 1 : Nat) : Int) := by omega
          go_wp2
          go_ret
          exact ⟨rfl, gr_none G3.out L2.out⟩
end Go.Proofs.YtbihhkcgiepgaaeGreatDoor
