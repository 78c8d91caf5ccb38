/- line: what Bounce tells; wrong calls of it. -/
import Derived.Test.YtdpagdlmpajjkafGreatDoorXVRefl
import Derived.Test.YtdpagdlmpajjkafGreatDoorXVb
import Derived.Test.YtdpagdlmpajjkafGreatDoorXDivG
import Derived.Deep.Light
import Derived.Test.YtdpagdlmpajjkafGreatDoorXZc
namespace Go.Proofs.YtdpagdlmpajjkafGreatDoor
open Go.RowKit
set_option linter.unusedVariables false
set_option linter.unusedSimpArgs false
def bo (W f g : Rat) : Nat → Rat
  | 0 => W
  | 1 => 0 * g + f
  | n + 2 => bo W f g n * g + f
def boP (W f g : Rat) : Nat → Rat
  | 0 => 0
  | n + 1 => bo W f g n
theorem bo_succ (W f g : Rat) : ∀ n, bo W f g (n + 1) = boP W f g n * g + f
  | 0 => rfl
  | _ + 1 => rfl
theorem sign_neg {q : Rat} : q.num.sign < 0 ↔ q < 0 := by
  have h : q.num < 0 ↔ q < 0 := by
    rw [Rat.lt_iff]
    simp
  rw [← h]
  rcases Int.lt_trichotomy q.num 0 with k | k | k
  · rw [Int.sign_eq_neg_one_of_neg k]
    exact ⟨fun _ => k, fun _ => by decide⟩
  · rw [k]
    decide
  · rw [Int.sign_eq_one_of_pos k]
    exact ⟨fun h => absurd h (by decide), fun h => by omega⟩
set_option maxHeartbeats 4000000 in
theorem bounce_many (a b c d : ByteArray) (k : Int) (w : World) (hk : ¬ (0 ≤ k ∧ k ≤ 50)) :
    Calls Tryz.prog 33 #[.string a, .string b, .string c, .string d, .int .i64 k] w fun e w' => e = .returned (.tuple #[.slice none 0 0, .int .i64 2]) ∧ w.grownBy w' none := by
  by_cases h0 : k < 0
  · have hd : decide (k < 0) = true := decide_eq_true h0
    clear hk
    go_enter Tryz.func33, Tryz.ntmps33
    go_wp2
    refine bodyPost_ret (v := .tuple #[.slice none 0 0, .int .i64 2]) (by first | (simp [results, Tryz.results33, go_sem]; done) | (simp [results, Tryz.results33, go_sem]; rfl)) rfl ?_
    exact ⟨rfl, gr_refl _ _⟩
  · have hd : decide (k < 0) = false := decide_eq_false h0
    have h1 : 50 < k := by omega
    have hd1 : decide (50 < k) = true := decide_eq_true h1
    clear hk
    go_enter Tryz.func33, Tryz.ntmps33
    go_wp2
    refine bodyPost_ret (v := .tuple #[.slice none 0 0, .int .i64 2]) (by first | (simp [results, Tryz.results33, go_sem]; done) | (simp [results, Tryz.results33, go_sem]; rfl)) rfl ?_
    exact ⟨rfl, gr_refl _ _⟩
set_option maxHeartbeats 16000000 in
set_option maxRecDepth 10000 in
theorem bounce_bad (sa sb sc sd : ByteArray) (v s z r : Rat) (k : Nat) (m : Int) (L : Nat) (w : World) (hk : k ≤ 50) (hv : v = ofR sa.data.toList) (hs : s = ofR sb.data.toList) (hz : z = ofR sc.data.toList) (hr : r = ofR sd.data.toList) (ha : sa.size ≤ 600000000) (hb : sb.size ≤ 600000000) (hc : sc.size ≤ 600000000) (hd : sd.size ≤ 600000000) (fv : FitW L v) (fs : FitW L s) (fz : FitW L z) (fr : FitW L r) (hL : L ≤ 10000000) (hml : w.cell? ⟨0, 0, none⟩ = some (.int .i64 m)) (hbad : ¬ (0 < z ∧ 0 ≤ s ∧ 0 ≤ r)) :
    Calls Tryz.prog 33 #[.string sa, .string sb, .string sc, .string sd, .int .i64 (k : Nat)] w fun e w' => e = .returned (.tuple #[.slice none 0 0, .int .i64 5]) ∧ w.grownBy w' none := by
  have HV := hide hv
  have HS := hide hs
  have HZ := hide hz
  have HR := hide hr
  have FVv := hide (hv ▸ fv)
  have FSs := hide (hs ▸ fs)
  have FZz := hide fz
  have FRr := hide (hr ▸ fr)
  have HM := hide hml
  clear hv hs hz hr fv fs fz fr hml
  have hk1 : (k : Int) ≤ 50 := by omega
  have hkd : decide ((k : Int) < 0) = false := decide_eq_false (by omega)
  have hke : decide (50 < (k : Int)) = false := decide_eq_false (by omega)
  by_cases hz0 : 0 < z
  · by_cases hs0 : s < 0
    · clear hbad
      go_enter Tryz.func33, Tryz.ntmps33
      go_wp2_with fail
      refine (lineOf_at sc z m L w HZ.out hc FZz.out HM.out).mono ?_
      rintro e w1 h1
      obtain ⟨g1, lk, lo1, ll1, lc1, lo2, ll2, lc2, rfl, p1⟩ := h1.good hz0
      have P1 := hide p1
      have G1 := hide g1
      clear p1 g1 h1
      go_upto_region 4 with fail
      obtain ⟨W2, hW2⟩ : ∃ wz, wz = (w1.alloc (Obj.cells #[.bool lk, .slice lo1 ll1 lc1, .slice lo2 ll2 lc2] 114)) := ⟨_, rfl⟩
      have GW2 : Hid (w1.grownBy W2 none) := by rw [hW2]; exact gr_alloc (gr_refl _ _) _
      have BL : Hid (∀ wx, W2.grownBy wx none → BoxC wx w1.heap.size #[.bool lk, .slice lo1 ll1 lc1, .slice lo2 ll2 lc2]) := by
        intro wx g
        rw [hW2] at g
        exact (boxNew w1 #[.bool lk, .slice lo1 ll1 lc1, .slice lo2 ll2 lc2] 114).keep0 g
      rw [← hW2]
      clear hW2
      have GA := hide (gr_none G1.out GW2.out)
      go_wp2_with fail
      refine (qOf_fit sb m L _ hb FSs.out (gr_cell GA.out HM.out)).mono ?_
      rintro e w3 ⟨v3, rfl, p3, g3⟩
      rw [← HS.out] at p3
      obtain ⟨sk, so1, sl1, sc1, so2, sl2, sc2, rfl⟩ := p3.letters
      have P3 := hide p3
      have G3 := hide g3
      clear p3 g3
      go_wp2_with fail
      refine (qOf_fit sd m L _ hd FRr.out (gr_cell (gr_none GA.out G3.out) HM.out)).mono ?_
      rintro e w4 ⟨v4, rfl, p4, g4⟩
      rw [← HR.out] at p4
      obtain ⟨rk, ro1, rl1, rc1, ro2, rl2, rc2, rfl⟩ := p4.letters
      have P4 := hide p4
      have G4 := hide g4
      clear p4 g4
      go_upto_region 5 with fail
      obtain ⟨W5, hW5⟩ : ∃ W, W = ((w4.alloc (Obj.cells #[.bool sk, .slice so1 sl1 sc1, .slice so2 sl2 sc2] 114)).alloc (Obj.cells #[.bool rk, .slice ro1 rl1 rc1, .slice ro2 rl2 rc2] 114)) := ⟨_, rfl⟩
      have GW5 : Hid (w4.grownBy W5 none) := by rw [hW5]; exact gr_alloc (gr_alloc (gr_refl _ _) _) _
      have BN : Hid (∀ wx, W5.grownBy wx none → BoxC wx (w4.heap.size) #[.bool sk, .slice so1 sl1 sc1, .slice so2 sl2 sc2]) := by
        intro wx hg
        rw [hW5] at hg
        have h0 := (boxNew' w4 #[.bool sk, .slice so1 sl1 sc1, .slice so2 sl2 sc2] 114 (w4.heap.size) (by simp))
        exact ((h0).keep0 (gr_alloc (gr_refl _ _) _)).keep0 hg
      have BFa : Hid (∀ wx, W5.grownBy wx none → BoxC wx (w4.heap.size + 1) #[.bool rk, .slice ro1 rl1 rc1, .slice ro2 rl2 rc2]) := by
        intro wx hg
        rw [hW5] at hg
        have h0 := (boxNew' (w4.alloc (Obj.cells #[.bool sk, .slice so1 sl1 sc1, .slice so2 sl2 sc2] 114)) #[.bool rk, .slice ro1 rl1 rc1, .slice ro2 rl2 rc2] 114 (w4.heap.size + 1) (by simp))
        exact (h0).keep0 hg
      rw [← hW5]
      clear hW5
      have GB := hide (gr_none (gr_none G3.out G4.out) GW5.out)
      have GC := hide (gr_none GA.out GB.out)
      obtain ⟨n0, n1, n2, nf0, nf1, nf2⟩ := (BN.out W5 (gr_refl _ _)).c3
      go_wp2_with fail
      refine (fSign_at _ s L W5 (P3.out.keep0 (gr_none G4.out GW5.out))).mono ?_
      rintro e w6 ⟨rfl, g6⟩
      have G6 := hide g6
      clear g6
      obtain ⟨sg1, hsg1⟩ : ∃ x, x = s.num.sign := ⟨_, rfl⟩
      rw [← hsg1]
      have hsd1 : decide (sg1 < 0) = true := by rw [hsg1]; exact decide_eq_true (sign_neg.2 hs0)
      have HSG1 := hide hsg1
      clear hsg1
      go_wp2
      refine bodyPost_ret (v := .tuple #[.slice none 0 0, .int .i64 5]) (by first | (simp [results, Tryz.results33, go_sem]; done) | (simp [results, Tryz.results33, go_sem]; rfl)) rfl ?_
      exact ⟨rfl, gr_none GC.out G6.out⟩
    · have hr0 : r < 0 := by
        rcases Rat.le_total (a := 0) (b := r) with h | h
        · exact absurd ⟨hz0, Rat.not_lt.1 hs0, h⟩ hbad
        · rcases (Rat.le_iff_lt_or_eq (a := r) (b := 0)).1 h with h | h
          · exact h
          · exact absurd ⟨hz0, Rat.not_lt.1 hs0, by rw [h]; exact Rat.le_refl⟩ hbad
      clear hbad
      go_enter Tryz.func33, Tryz.ntmps33
      go_wp2_with fail
      refine (lineOf_at sc z m L w HZ.out hc FZz.out HM.out).mono ?_
      rintro e w1 h1
      obtain ⟨g1, lk, lo1, ll1, lc1, lo2, ll2, lc2, rfl, p1⟩ := h1.good hz0
      have P1 := hide p1
      have G1 := hide g1
      clear p1 g1 h1
      go_upto_region 4 with fail
      obtain ⟨W2, hW2⟩ : ∃ wz, wz = (w1.alloc (Obj.cells #[.bool lk, .slice lo1 ll1 lc1, .slice lo2 ll2 lc2] 114)) := ⟨_, rfl⟩
      have GW2 : Hid (w1.grownBy W2 none) := by rw [hW2]; exact gr_alloc (gr_refl _ _) _
      have BL : Hid (∀ wx, W2.grownBy wx none → BoxC wx w1.heap.size #[.bool lk, .slice lo1 ll1 lc1, .slice lo2 ll2 lc2]) := by
        intro wx g
        rw [hW2] at g
        exact (boxNew w1 #[.bool lk, .slice lo1 ll1 lc1, .slice lo2 ll2 lc2] 114).keep0 g
      rw [← hW2]
      clear hW2
      have GA := hide (gr_none G1.out GW2.out)
      go_wp2_with fail
      refine (qOf_fit sb m L _ hb FSs.out (gr_cell GA.out HM.out)).mono ?_
      rintro e w3 ⟨v3, rfl, p3, g3⟩
      rw [← HS.out] at p3
      obtain ⟨sk, so1, sl1, sc1, so2, sl2, sc2, rfl⟩ := p3.letters
      have P3 := hide p3
      have G3 := hide g3
      clear p3 g3
      go_wp2_with fail
      refine (qOf_fit sd m L _ hd FRr.out (gr_cell (gr_none GA.out G3.out) HM.out)).mono ?_
      rintro e w4 ⟨v4, rfl, p4, g4⟩
      rw [← HR.out] at p4
      obtain ⟨rk, ro1, rl1, rc1, ro2, rl2, rc2, rfl⟩ := p4.letters
      have P4 := hide p4
      have G4 := hide g4
      clear p4 g4
      go_upto_region 5 with fail
      obtain ⟨W5, hW5⟩ : ∃ W, W = ((w4.alloc (Obj.cells #[.bool sk, .slice so1 sl1 sc1, .slice so2 sl2 sc2] 114)).alloc (Obj.cells #[.bool rk, .slice ro1 rl1 rc1, .slice ro2 rl2 rc2] 114)) := ⟨_, rfl⟩
      have GW5 : Hid (w4.grownBy W5 none) := by rw [hW5]; exact gr_alloc (gr_alloc (gr_refl _ _) _) _
      have BN : Hid (∀ wx, W5.grownBy wx none → BoxC wx (w4.heap.size) #[.bool sk, .slice so1 sl1 sc1, .slice so2 sl2 sc2]) := by
        intro wx hg
        rw [hW5] at hg
        have h0 := (boxNew' w4 #[.bool sk, .slice so1 sl1 sc1, .slice so2 sl2 sc2] 114 (w4.heap.size) (by simp))
        exact ((h0).keep0 (gr_alloc (gr_refl _ _) _)).keep0 hg
      have BFa : Hid (∀ wx, W5.grownBy wx none → BoxC wx (w4.heap.size + 1) #[.bool rk, .slice ro1 rl1 rc1, .slice ro2 rl2 rc2]) := by
        intro wx hg
        rw [hW5] at hg
        have h0 := (boxNew' (w4.alloc (Obj.cells #[.bool sk, .slice so1 sl1 sc1, .slice so2 sl2 sc2] 114)) #[.bool rk, .slice ro1 rl1 rc1, .slice ro2 rl2 rc2] 114 (w4.heap.size + 1) (by simp))
        exact (h0).keep0 hg
      rw [← hW5]
      clear hW5
      have GB := hide (gr_none (gr_none G3.out G4.out) GW5.out)
      have GC := hide (gr_none GA.out GB.out)
      obtain ⟨n0, n1, n2, nf0, nf1, nf2⟩ := (BN.out W5 (gr_refl _ _)).c3
      go_wp2_with fail
      refine (fSign_at _ s L W5 (P3.out.keep0 (gr_none G4.out GW5.out))).mono ?_
      rintro e w6 ⟨rfl, g6⟩
      have G6 := hide g6
      clear g6
      obtain ⟨sg1, hsg1⟩ : ∃ x, x = s.num.sign := ⟨_, rfl⟩
      rw [← hsg1]
      have hsd1 : decide (sg1 < 0) = false := by rw [hsg1]; exact decide_eq_false (fun e => hs0 (sign_neg.1 e))
      have HSG1 := hide hsg1
      clear hsg1
      obtain ⟨f0, f1, f2, ff0, ff1, ff2⟩ := (BFa.out w6 G6.out).c3
      go_wp2_with fail
      refine (fSign_at _ r L w6 ((P4.out.keep0 GW5.out).keep0 G6.out)).mono ?_
      rintro e w7 ⟨rfl, g7⟩
      have G7 := hide (gr_none G6.out g7)
      clear g7
      obtain ⟨sg2, hsg2⟩ : ∃ x, x = r.num.sign := ⟨_, rfl⟩
      rw [← hsg2]
      have hsd2 : decide (sg2 < 0) = true := by rw [hsg2]; exact decide_eq_true (sign_neg.2 hr0)
      have HSG2 := hide hsg2
      clear hsg2
      go_wp2
      refine bodyPost_ret (v := .tuple #[.slice none 0 0, .int .i64 5]) (by first | (simp [results, Tryz.results33, go_sem]; done) | (simp [results, Tryz.results33, go_sem]; rfl)) rfl ?_
      exact ⟨rfl, gr_none GC.out G7.out⟩
  · clear hbad
    go_enter Tryz.func33, Tryz.ntmps33
    go_wp2_with fail
    refine (lineOf_at sc z m L w HZ.out hc FZz.out HM.out).mono ?_
    rintro e w1 h1
    obtain ⟨rfl, g1⟩ := h1.ill hz0
    have G1 := hide g1
    clear g1 h1
    go_upto_region 4 with fail
    obtain ⟨W2, hW2⟩ : ∃ wz, wz = (w1.alloc (Obj.cells #[.bool false, .slice none 0 0, .slice none 0 0] 114)) := ⟨_, rfl⟩
    have GW2 : Hid (w1.grownBy W2 none) := by rw [hW2]; exact gr_alloc (gr_refl _ _) _
    have BL : Hid (∀ wx, W2.grownBy wx none → BoxC wx w1.heap.size #[.bool false, .slice none 0 0, .slice none 0 0]) := by
      intro wx g
      rw [hW2] at g
      exact (boxNew w1 #[.bool false, .slice none 0 0, .slice none 0 0] 114).keep0 g
    rw [← hW2]
    clear hW2
    have GA := hide (gr_none G1.out GW2.out)
    go_wp2_with fail
    refine (qOf_fit sb m L _ hb FSs.out (gr_cell GA.out HM.out)).mono ?_
    rintro e w3 ⟨v3, rfl, p3, g3⟩
    rw [← HS.out] at p3
    obtain ⟨sk, so1, sl1, sc1, so2, sl2, sc2, rfl⟩ := p3.letters
    have P3 := hide p3
    have G3 := hide g3
    clear p3 g3
    go_wp2_with fail
    refine (qOf_fit sd m L _ hd FRr.out (gr_cell (gr_none GA.out G3.out) HM.out)).mono ?_
    rintro e w4 ⟨v4, rfl, p4, g4⟩
    rw [← HR.out] at p4
    obtain ⟨rk, ro1, rl1, rc1, ro2, rl2, rc2, rfl⟩ := p4.letters
    have P4 := hide p4
    have G4 := hide g4
    clear p4 g4
    go_upto_region 5 with fail
    obtain ⟨W5, hW5⟩ : ∃ W, W = ((w4.alloc (Obj.cells #[.bool sk, .slice so1 sl1 sc1, .slice so2 sl2 sc2] 114)).alloc (Obj.cells #[.bool rk, .slice ro1 rl1 rc1, .slice ro2 rl2 rc2] 114)) := ⟨_, rfl⟩
    have GW5 : Hid (w4.grownBy W5 none) := by rw [hW5]; exact gr_alloc (gr_alloc (gr_refl _ _) _) _
    have BN : Hid (∀ wx, W5.grownBy wx none → BoxC wx (w4.heap.size) #[.bool sk, .slice so1 sl1 sc1, .slice so2 sl2 sc2]) := by
      intro wx hg
      rw [hW5] at hg
      have h0 := (boxNew' w4 #[.bool sk, .slice so1 sl1 sc1, .slice so2 sl2 sc2] 114 (w4.heap.size) (by simp))
      exact ((h0).keep0 (gr_alloc (gr_refl _ _) _)).keep0 hg
    have BFa : Hid (∀ wx, W5.grownBy wx none → BoxC wx (w4.heap.size + 1) #[.bool rk, .slice ro1 rl1 rc1, .slice ro2 rl2 rc2]) := by
      intro wx hg
      rw [hW5] at hg
      have h0 := (boxNew' (w4.alloc (Obj.cells #[.bool sk, .slice so1 sl1 sc1, .slice so2 sl2 sc2] 114)) #[.bool rk, .slice ro1 rl1 rc1, .slice ro2 rl2 rc2] 114 (w4.heap.size + 1) (by simp))
      exact (h0).keep0 hg
    rw [← hW5]
    clear hW5
    have GB := hide (gr_none (gr_none G3.out G4.out) GW5.out)
    have GC := hide (gr_none GA.out GB.out)
    go_wp2
    refine bodyPost_ret (v := .tuple #[.slice none 0 0, .int .i64 5]) (by first | (simp [results, Tryz.results33, go_sem]; done) | (simp [results, Tryz.results33, go_sem]; rfl)) rfl ?_
    exact ⟨rfl, GC.out⟩
end Go.Proofs.YtdpagdlmpajjkafGreatDoor

namespace Go.Proofs.YtdpagdlmpajjkafGreatDoor
open Go.RowKit
set_option linter.unusedVariables false
set_option linter.unusedSimpArgs false
theorem gr_hit3 {w : World} {b i j k : Nat} {x y z : Value} : w.grownBy (((w.setCell ⟨b, i, none⟩ x).setCell ⟨b, j, none⟩ y).setCell ⟨b, k, none⟩ z) (some b) := by
  have h : ∀ (w : World) (i : Nat) (v : Value), w.grownBy (w.setCell ⟨b, i, none⟩ v) (some b) := fun w i v => ⟨rfl, rfl, rfl, by simp, fun q _ hr => heap_setCell_other _ _ _ _ (fun e => hr (by rw [e]))⟩
  exact gr_trans (gr_trans (h _ _ _) (h _ _ _) (fun _ _ e => e) (fun _ _ e => e)) (h _ _ _) (fun _ _ e => e) (fun _ _ e => e)
theorem OwnT.keepB {w w' : World} {g : Nat} {v : Value} {xs : List ByteArray} (h : OwnT w (g + 1) v xs) (hg : w.grownBy w' (some g)) : OwnT w' (g + 1) v xs :=
  ⟨h.1.keepB hg (Nat.lt_succ_self g), fun k ek => (h.2 k ek).keep (h.1.fresh k ek).2 hg (fun e => by have := (h.1.fresh k ek).1; have := Option.some.inj e; omega)⟩
def BncR (w0 : World) (hb : Nat) (W f g : Rat) (B k : Nat) (ov iv : Value) (wr : World) : Prop :=
  ∃ i : Nat, i ≤ k ∧ iv = .int .i64 (i : Nat) ∧ OwnT wr (hb + 1) ov (textsL (bo W f g) (i + 1)) ∧ w0.grownBy wr none ∧
    ∃ c0 c1 c2 c3 c4 c5, BoxC wr hb #[c0, c1, c2, c3, c4, c5] ∧ FQ wr (.agg #[c0, c1, c2]) (if i % 2 = 0 then bo W f g i else boP W f g i) B ∧ FQ wr (.agg #[c3, c4, c5]) (if i % 2 = 0 then boP W f g i else bo W f g i) B
theorem BncR.start {w0 wr : World} {hb B k : Nat} {W f g : Rat} {ov c0 c1 c2 c3 c4 c5 : Value} (ho : OwnT wr (hb + 1) ov [⟨(qtext W).toArray⟩]) (hg : w0.grownBy wr none) (hbx : BoxC wr hb #[c0, c1, c2, c3, c4, c5]) (q0 : FQ wr (.agg #[c0, c1, c2]) W B) (q1 : FQ wr (.agg #[c3, c4, c5]) 0 B) : BncR w0 hb W f g B k ov (.int .i64 0) wr := by
  refine ⟨0, Nat.zero_le _, rfl, ho, hg, c0, c1, c2, c3, c4, c5, hbx, ?_, ?_⟩
  · rw [if_pos rfl]; exact q0
  · rw [if_pos rfl]; exact q1
end Go.Proofs.YtdpagdlmpajjkafGreatDoor
