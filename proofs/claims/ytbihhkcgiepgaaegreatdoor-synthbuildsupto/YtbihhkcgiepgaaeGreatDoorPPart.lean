/- poly: Clone, Parted. -/
import Derived.Test.YtbihhkcgiepgaaeGreatDoorMPb
import Derived.Test.YtbihhkcgiepgaaeGreatDoorMPa
import Derived.Deep.RegionHeld3
namespace Go.Proofs.YtbihhkcgiepgaaeGreatDoor
open Go.RowKit
set_option linter.unusedVariables false
set_option linter.unusedSimpArgs false

theorem ownF_made {w : World} {R : Nat → Rat} {L : Nat} : OwnF (w.alloc (Obj.cells #[] 107)) w.heap.size (.slice (some ⟨w.heap.size, 0, none⟩) 0 0) 0 R L := by
  refine ⟨[], World.ownsRow_made w #[] 0 (Nat.le_refl _) (by unfold maxLen; omega) (by simp), ?_, rfl, fun i h => by omega⟩
  intro k ek
  simp only [Value.ownBlock, Option.some.injEq] at ek
  subst ek
  exact NoW.cells (heap_alloc_new w _) (by simp)

set_option maxHeartbeats 4000000 in
set_option maxRecDepth 10000 in
theorem pclone_at (x : Value) (n : Nat) (p : Nat → Rat) (L : Nat) (w : World) (hx : Rw w x n p L) (h0 : 0 < n) (hn : n ≤ 3000) :
    Calls Tryz.prog 294 #[x] w fun e w' => ∃ v, e = .returned v ∧ OwnF w' w.heap.size v n p L ∧ w.grownBy w' none := by
  obtain ⟨xo, xc, rfl, hc, hm, h3⟩ := hx
  obtain ⟨gx, ex, hr⟩ := h3 h0
  subst ex
  have HR := hide hr
  clear hr h3
  have hq : ∀ W, (binOp .eql 96 (.slice (some ⟨gx, 0, none⟩) n xc) (.slice none 0 0)).run Tryz.prog W = .ok (.bool false) W := fun W => Lib.run_eql_slice_nil W _ _ (some _) _ _ 0 0 Tryz.underlying96
  go_enter Tryz.func294, Tryz.ntmps294
  go_wp2_with (at_builtin; refine wpList_append_fs _ rfl _ _ 96 rfl w.heap.size Tryz.underlying96 Tryz.infoF _ 0 (fun _ => 0) L rfl ownF_made gx n xc p rfl (HR.out.keep0 (gr_alloc (gr_refl _ _) _)) h0 (by omega) (by simp) ?_)
  intro ao cap w2 h1 h2 h3
  have H1 := hide h1
  have H2 : Hid (w.grownBy w2 none) := by
    refine gr_own2 (gr_alloc (gr_refl _ _) _) h2 (fun b e => ?_)
    simp only [Value.ownBlock, Option.some.injEq] at e
    omega
  clear h1 h2 h3
  go_wp2
  go_ret
  have h4 := H1.out
  exact ⟨_, by first | rfl | simp, h4.congr (fun i _ => by simp), H2.out⟩

/-- One step of a division: the i-th number of the quotient taken away. -/
def parS (q : Nat → Rat) (m : Nat) (r : Nat → Rat) (i : Nat) : Nat → Rat := fun j => if i ≤ j ∧ j ≤ i + m then r j - r (i + m) / q m * q (j - i) else r j

/-- What is left behind t steps. -/
def parC (p q : Nat → Rat) (m K : Nat) : Nat → Nat → Rat
  | 0 => p
  | t + 1 => parS q m (parC p q m K t) (K - 1 - t)

/-- The quotient. -/
def parO (p q : Nat → Rat) (m K : Nat) : Nat → Rat := fun j => if j < K then parC p q m K (K - 1 - j) (j + m) / q m else 0

theorem parS_zero {q : Nat → Rat} {m : Nat} {r : Nat → Rat} {i : Nat} (h : r (i + m) / q m = 0) : parS q m r i = r := by
  funext j
  unfold parS
  split
  · rw [h, Rat.zero_mul, Rat.sub_eq_add_neg, Rat.neg_zero, Rat.add_zero]
  · rfl

/-- The quotient, as far as it is there behind t steps. -/
def parT (p q : Nat → Rat) (m K t : Nat) : Nat → Rat := fun j => if j + t < K then 0 else parO p q m K j

/-- What is left, in the midst of a step. -/
def parM (q : Nat → Rat) (m : Nat) (r : Nat → Rat) (i c : Nat) : Nat → Rat := fun j => if i ≤ j ∧ j < i + c then parS q m r i j else r j

theorem parM_end (q : Nat → Rat) (m : Nat) (r : Nat → Rat) (i j : Nat) : parM q m r i (m + 1) j = parS q m r i j := by
  unfold parM
  split
  · rfl
  · unfold parS
    rw [if_neg (by omega)]

theorem parM_put (q : Nat → Rat) (m : Nat) (r : Nat → Rat) (i c j : Nat) : put (parM q m r i c) (i + c) (parS q m r i (i + c)) j = parM q m r i (c + 1) j := by
  unfold put parM
  by_cases h : j = i + c
  · rw [if_pos h, if_pos (by omega), h]
  · rw [if_neg h]
    by_cases h2 : i ≤ j ∧ j < i + c
    · rw [if_pos h2, if_pos (by omega)]
    · rw [if_neg h2, if_neg (by omega)]

theorem parT_put (p q : Nat → Rat) (m K t j : Nat) (ht : t < K) (hj : j < K) : put (parT p q m K t) (K - 1 - t) (parO p q m K (K - 1 - t)) j = parT p q m K (t + 1) j := by
  unfold put parT
  by_cases h : j = K - 1 - t
  · rw [if_pos h, if_neg (by omega), h]
  · rw [if_neg h]
    by_cases h2 : j + t < K
    · rw [if_pos h2, if_pos (by omega)]
    · rw [if_neg h2, if_neg (by omega)]

def ParR (w : World) (p q : Nat → Rat) (n m K br bo L : Nat) (v : Value) (wr : World) : Prop :=
  ∃ t : Nat, t ≤ K ∧ v = .int .i64 ((K : Int) - t - 1) ∧ FRow wr br n (parC p q m K t) L ∧ FRow wr bo K (parT p q m K t) L ∧ w.grownBy wr none

def PaiR (w : World) (p q : Nat → Rat) (n m K t i br bo L : Nat) (v : Value) (wr : World) : Prop :=
  ∃ c : Nat, c ≤ m + 1 ∧ v = .int .i64 c ∧ FRow wr br n (parM q m (parC p q m K t) i c) L ∧ FRow wr bo K (parT p q m K (t + 1)) L ∧ w.grownBy wr none

/-- What Parted answers. -/
def ParE (w : World) (p q : Nat → Rat) (n m K L : Nat) (e : Ending) (w' : World) : Prop :=
  ∃ v1 v2, e = .returned (.tuple #[v1, v2]) ∧ Rw w' v1 K (parO p q m K) L ∧ Rw w' v2 (trimLen (parC p q m K K) n) (parC p q m K K) L ∧ w.grownBy w' none

set_option maxHeartbeats 8000000 in
set_option maxRecDepth 10000 in
theorem parted_at (x y : Value) (n m K : Nat) (p q : Nat → Rat) (L : Nat) (w : World) (hx : Rw w x n p L) (hy : Rw w y (m + 1) q L) (hq0 : ∀ i, m + 1 ≤ i → q i = 0) (hqm : q m ≠ 0) (hn0 : 0 < n) (hn : n ≤ 3000) (hm : m ≤ 2999) (hK : K = n - m) (hL : L ≤ 1000000000000)
    (hfR : ∀ t, t ≤ K → ∀ j, FitW L (parC p q m K t j)) (hfO : ∀ j, FitW L (parO p q m K j)) :
    Calls Tryz.prog 219 #[x, y] w fun e w' => ParE w p q n m K L e w' := by
  have HX := hide hx
  have HY := hide hy
  have HQ0 := hide hq0
  have HQM := hide hqm
  have HFR := hide hfR
  have HFO := hide hfO
  obtain ⟨xo, xc, rfl, hxc, hxm, _⟩ := hx
  obtain ⟨yo, yc, rfl, hyc, hym, h3⟩ := hy
  obtain ⟨gy, ey, hry⟩ := h3 (by omega)
  subst ey
  have HRY := hide hry
  have hgy := hry.lt
  unfold maxLen at hxm hym
  clear hq0 hqm hfR hfO h3 hry
  obtain ⟨M, hM⟩ : ∃ M, M = m + 1 := ⟨_, rfl⟩
  rw [← hM] at hyc HRY HY ⊢
  have hMl : M ≤ 3000 := by omega
  have hM0 : 1 ≤ M := by omega
  have hKi : max (0 : Int) (((n : Nat) : Int) - ((M : Nat) : Int) + 1) = ((K : Nat) : Int) := by omega
  have HM := hide hM
  have hKl : K ≤ 3000 := by omega
  have HK := hide hK
  clear hK hM
  go_enter Tryz.func219, Tryz.ntmps219
  go_wp2_with fail
  refine (pclone_at _ n p L w HX.out hn0 hn).mono ?_
  rintro e w1 ⟨v1, rfl, a1, a2⟩
  obtain ⟨ro, rc, er⟩ := a1.shape
  subst er
  obtain ⟨ro', rc', e', hrc, hrm, h4⟩ := a1.rowF
  simp only [Value.slice.injEq, true_and] at e'
  obtain ⟨rfl, rfl⟩ := e'
  obtain ⟨br, ebr, hrr⟩ := h4 hn0
  subst ebr
  obtain ⟨hbr1, hbr2⟩ := a1.fresh br rfl
  have HRR := hide hrr
  have A2 := hide a2
  unfold maxLen at hrm
  clear a1 a2 h4 hrr
  go_wp2_with (refine wpList_make_f _ rfl _ _ 96 rfl Tryz.underlying96 Tryz.infoF .i64 .i64 _ _ K rfl rfl (by omega) (by omega) (by omega) ?_)
  intro W hF hG
  obtain ⟨bo, hbo⟩ : ∃ bo, bo = w1.heap.size := ⟨_, rfl⟩
  rw [← hbo] at hF ⊢
  have HF := hide hF
  have HG := hide hG
  have hbb : br ≠ bo := by omega
  have hbb2 : bo ≠ br := by omega
  have hbw : w.heap.size ≤ bo := by have := A2.out.size; omega
  clear hF hG hbo hKi
  go_wp2
  go_loopw [6] (fun v wr => Hid (ParR w p q n m K br bo L v wr)) (fun v _ => (intOf v + 1).toNat)
  case atStart => exact ⟨0, by omega, by go_num, HRR.out.keep0 HG.out, (HF.out.mono (Nat.zero_le _)).congr (fun j hj => by unfold parT; rw [if_pos (by omega)]), gr_none A2.out HG.out⟩
  case round =>
    obtain ⟨t, ht, rfl, t1, t2, t3⟩ := hrel.out
    have T1 := hide t1
    have T2 := hide t2
    have T3 := hide t3
    clear hrel t1 t2 t3
    by_cases hlt : t < K
    · obtain ⟨i, hi⟩ : ∃ i, i = K - 1 - t := ⟨_, rfl⟩
      have hii : ((K : Int) - t - 1) = ((i : Nat) : Int) := by omega
      rw [hii]
      have hiK : i < K := by omega
      have hKn := HK.out
      have him : i + m < n := by omega
      have EI := hide hi
      obtain ⟨k, hk⟩ : ∃ k, k = i + m := ⟨_, rfl⟩
      have hkM := HM.out
      have hw1 : IntKind.i64.wrap (((i : Nat) : Int) + ((M : Nat) : Int)) = ((i : Nat) : Int) + ((M : Nat) : Int) := IntWalk.i64_in _ ⟨by omega, by omega⟩
      have hw2 : IntKind.i64.wrap (((i : Nat) : Int) + ((M : Nat) : Int) - 1) = ((k : Nat) : Int) := by rw [IntWalk.i64_in _ ⟨by omega, by omega⟩]; omega
      have hkn : k < n := by omega
      rw [← hk] at him
      have hEK := hide hk
      clear hi hii hKn hkM
      obtain ⟨uo, ul, uc, do_, dl, dc, c0, c1, c2, c3, _⟩ := T1.out.at k him
      have C3 := hide c3
      obtain ⟨_, _, _, _, _, _, d0, d1, d2, _, df⟩ := T2.out.at i hiK
      have hL1 := T1.out.lt
      have hL2 := T2.out.lt
      have CX : Hid (∀ wx, wr.grownBy wx none → (wx.cell? ⟨br, k * 3, none⟩ = some (.bool (rB (parC p q m K t k))) ∧ wx.cell? ⟨br, k * 3 + 1, none⟩ = some (.slice uo ul uc) ∧ wx.cell? ⟨br, k * 3 + 2, none⟩ = some (.slice do_ dl dc))) := by
        intro wx hg
        exact ⟨hg.cell c0 (by simp), hg.cell c1 (by simp), hg.cell c2 (by simp)⟩
      have DX : Hid (∀ wx, wr.grownBy wx none → (∃ x0, wx.cell? ⟨bo, i * 3, none⟩ = some x0) ∧ (∃ x0, wx.cell? ⟨bo, i * 3 + 1, none⟩ = some x0) ∧ (∃ x0, wx.cell? ⟨bo, i * 3 + 2, none⟩ = some x0) ∧ ∀ j, wx.frozen? ⟨bo, j, none⟩ = false) := by
        intro wx hg
        obtain ⟨_, _, _, _, _, _, d0, d1, d2, _, df⟩ := (T2.out.keep0 hg).at i hiK
        exact ⟨⟨_, d0⟩, ⟨_, d1⟩, ⟨_, d2⟩, df⟩
      clear c3 d0 d1 d2 df c0 c1 c2
      have GG : wr.grownBy wr none := gr_refl _ _
      obtain ⟨s0, s1, s2⟩ := CX.out wr GG
      have hi1 : (0 : Int) ≤ ((i : Nat) : Int) := by omega
      have hi2 : ((i : Nat) : Int) < (K : Int) := by omega
      have hk1 : (0 : Int) ≤ ((k : Nat) : Int) := by omega
      have hk2 : ((k : Nat) : Int) < (n : Int) := by omega
      have FO : Hid (parC p q m K t k / q m = parO p q m K i) := by
        show _ = _
        unfold parO
        rw [if_pos hiK, hEK.out, show K - 1 - i = t by have := EI.out; omega]
      clear hk
      go_wp2_with fail
      go_region_held3 (fun w' => w'.cell? ⟨br, k * 3, none⟩ = some (.bool (rB (parC p q m K t k))) ∧ w'.cell? ⟨br, k * 3 + 1, none⟩ = some (.slice uo ul uc) ∧ w'.cell? ⟨br, k * 3 + 2, none⟩ = some (.slice do_ dl dc)) (go_keep)
        (first
          | (go_at_call 132; (try clear hw1 hw2); refine (last_at _ M q L _ (HY.out.keep0 (gr_none T3.out (by first | exact gr_none GG (gr_d _) | exact gr_none GG gr_d1 | exact GG))) (by omega) (by omega) (by rw [HM.out]; exact HQ0.out)).mono ?_; rintro e wa ⟨va, rfl, fa, ga⟩; obtain ⟨ao, al, ac, ao2, al2, ac2, rfl⟩ := fa.shape; have FA := hide fa; have GG : wr.grownBy wa none := gr_none (by first | exact gr_none GG (gr_d _) | exact gr_none GG gr_d1 | exact GG) ga; obtain ⟨a1, a2, a3⟩ := CX.out wa GG; clear fa ga)
          | (go_at_call 137; (try clear hw1 hw2); refine (qOver_at _ _ (parC p q m K t k) (q (M - 1)) L L _ (C3.out.keep0 (by first | exact gr_none GG (gr_d _) | exact gr_none GG gr_d1 | exact GG)) (FA.out.keep0 (by first | exact gr_d _ | exact gr_d1 | exact gr_refl _ _)) (by rw [HM.out]; exact HQM.out) (by omega)).mono ?_; rintro e wf ⟨v6, rfl, f1, f2⟩; obtain ⟨fo, fl, fc, fo2, fl2, fc2, rfl⟩ := f1.shape; have GG : wr.grownBy wf none := gr_none (by first | exact gr_none GG (gr_d _) | exact gr_none GG gr_d1 | exact GG) f2; obtain ⟨b1, b2, b3⟩ := CX.out wf GG; obtain ⟨⟨_, r0⟩, ⟨_, r1⟩, ⟨_, r2⟩, rf⟩ := DX.out wf GG; have rf0 := rf (i * 3); have rf1 := rf (i * 3 + 1); have rf2 := rf (i * 3 + 2); clear rf))
      all_goals
        have e9 : parC p q m K t k / q (M - 1) = parO p q m K i := by rw [← FO.out, HM.out]; rfl
        rw [e9] at f1 ⊢
        have F1 := hide (f1.tight (HFO.out i))
        have GG2 := hide GG
        obtain ⟨r1', r2', r3'⟩ := (T2.out.keep0 GG).set i hiK F1.out
        have gall := gr_own2 (gr_none T3.out GG) r2' (fun b e => by cases e; exact hbw)
        have k1' := (T1.out.keep0 GG).keep r2' r3' (by simp; omega)
        generalize (((_ : World).setCell ⟨bo, i * 3, none⟩ (.bool (rB (parO p q m K i)))).setCell ⟨bo, i * 3 + 1, none⟩ (.slice fo fl fc)).setCell ⟨bo, i * 3 + 2, none⟩ (.slice fo2 fl2 fc2) = W2 at r1' r2' r3' k1' gall ⊢
        have R1 : Hid (FRow W2 bo K (parT p q m K (t + 1)) L) := r1'.congr (fun j hj => by rw [EI.out]; exact parT_put p q m K t j hlt hj)
        have R2 := hide k1'
        have R3 := hide gall
        have eT : Hid (parT p q m K (t + 1) i = parO p q m K i) := by
          show _ = _
          unfold parT
          rw [if_neg (by have := EI.out; omega)]
        clear r1' r2' r3' k1' gall b1 b2 b3 r0 r1 r2 rf0 rf1 rf2 f1 f2 e9 s0 s1 s2 a1 a2 a3 GG
        obtain ⟨oo, ol, oc, oo2, ol2, oc2, o0, o1, o2, o3, _⟩ := R1.out.at i hiK
        rw [eT.out] at o0 o3
        have O3 := hide o3
        clear o3
        obtain ⟨Z, hZ⟩ : ∃ Z, Z = parO p q m K i := ⟨_, rfl⟩
        have HZ := hide hZ
        rw [← hZ] at o0 O3
        by_cases hz : Z = 0
        · have hz1 : Hid (decide (rN Z = 0) = true) := by rw [hz]; rfl
          have HZ0 := hide hz
          clear hz hZ
          go_wp2_with (go_at_call 60; refine (isZero_at _ _ _ _ L _ O3.out).mono ?_; rintro e w4 ⟨rfl, k4⟩; rw [hz1.out]; have K4 := hide k4; clear k4)
          go_roundw
          case rel =>
            refine ⟨t + 1, by omega, by have := EI.out; go_num, ?_, R1.out.keep0 K4.out, gr_none R3.out K4.out⟩
            have e : parC p q m K (t + 1) = parC p q m K t := by
              show parS q m (parC p q m K t) (K - 1 - t) = _
              refine parS_zero ?_
              rw [← EI.out, ← hEK.out, FO.out, ← HZ.out, HZ0.out]
            rw [e]
            exact R2.out.keep0 K4.out
          case measure => simp [intOf]
        · have hz1 : Hid (decide (rN Z = 0) = false) := by
            refine decide_eq_false fun e => hz ?_
            unfold rN at e
            exact Rat.num_eq_zero.1 (by omega)
          clear hz hZ
          go_wp2_with (go_at_call 60; refine (isZero_at _ _ _ _ L _ O3.out).mono ?_; rintro e w4 ⟨rfl, k4⟩; rw [hz1.out]; have K4 := hide k4; clear k4)
          have R1' := hide (R1.out.keep0 K4.out)
          have R2' := hide (R2.out.keep0 K4.out)
          have R3' := hide (gr_none R3.out K4.out)
          clear o0 o1 o2 R1 R2 R3 O3
          rename World => W4
          go_loopw [47] (fun v wr => Hid (PaiR w p q n m K t i br bo L v wr)) (fun v _ => M - (intOf v).toNat)
          case atStart => exact ⟨0, by omega, rfl, R2'.out.congr (fun j hj => by unfold parM; rw [if_neg (by omega)]), R1'.out, R3'.out⟩
          case round =>
            obtain ⟨c, hc, rfl, i1, i2, i3⟩ := hrel.out
            have I1 := hide i1
            have I2 := hide i2
            have I3 := hide i3
            clear hrel i1 i2 i3 R1' R2' R3'
            by_cases hcM : c < M
            · obtain ⟨l, hl⟩ : ∃ l, l = i + c := ⟨_, rfl⟩
              have hln : l < n := by have := HM.out; have := hEK.out; omega
              have HLL := hide hl
              have hw1 : IntKind.i64.wrap (((i : Nat) : Int) + ((c : Nat) : Int)) = ((l : Nat) : Int) := by rw [IntWalk.i64_in _ ⟨by omega, by omega⟩]; omega
              clear hl
              obtain ⟨yo1, yl1, yc1, yo2, yl2, yc2, y0, y1, y2, y3, _⟩ := (HRY.out.keep0 I3.out).at c hcM
              have Y3 := hide y3
              clear y3
              go_upto_region 11 with fail
              obtain ⟨w5, hw5⟩ : ∃ w5, w5 = wr.alloc (Obj.cells #[.bool (rB (q c)), .slice yo1 yl1 yc1, .slice yo2 yl2 yc2] 107) := ⟨_, rfl⟩
              have G5 : Hid (wr.grownBy w5 none) := by rw [hw5]; exact gr_alloc (gr_refl _ _) _
              have XC : Hid (∀ wx, w5.grownBy wx none → wx.cell? ⟨wr.heap.size, 0, none⟩ = some (.bool (rB (q c))) ∧ wx.cell? ⟨wr.heap.size, 1, none⟩ = some (.slice yo1 yl1 yc1) ∧ wx.cell? ⟨wr.heap.size, 2, none⟩ = some (.slice yo2 yl2 yc2)) := by
                intro wx hg
                rw [hw5] at hg
                exact box_three hg
              rw [← hw5]
              clear hw5 y0 y1 y2
              have eM : parM q m (parC p q m K t) i c l = parC p q m K t l := by
                unfold parM
                rw [if_neg (by have := HLL.out; omega)]
              obtain ⟨uo, ul, uc, do_, dl, dc, c0, c1, c2, c3, _⟩ := I1.out.at l hln
              rw [eM] at c0 c3
              obtain ⟨vo, vl, vc, vo2, vl2, vc2, d0, d1, d2, d3, _⟩ := I2.out.at i hiK
              rw [eT.out, ← HZ.out] at d0 d3
              have C3 := hide c3
              have D3 := hide d3
              obtain ⟨rl, hrl⟩ : ∃ rl, rl = parC p q m K t l := ⟨_, rfl⟩
              rw [← hrl] at c0 C3
              have HRL := hide hrl
              have hL1 := I1.out.lt
              have hL2 := I2.out.lt
              have hL5 := G5.out.size
              have CX : Hid (∀ wx, w5.grownBy wx none → (wx.cell? ⟨br, l * 3, none⟩ = some (.bool (rB rl)) ∧ wx.cell? ⟨br, l * 3 + 1, none⟩ = some (.slice uo ul uc) ∧ wx.cell? ⟨br, l * 3 + 2, none⟩ = some (.slice do_ dl dc)) ∧ (wx.cell? ⟨bo, i * 3, none⟩ = some (.bool (rB Z)) ∧ wx.cell? ⟨bo, i * 3 + 1, none⟩ = some (.slice vo vl vc) ∧ wx.cell? ⟨bo, i * 3 + 2, none⟩ = some (.slice vo2 vl2 vc2)) ∧ ∀ j, wx.frozen? ⟨br, j, none⟩ = false) := by
                intro wx hg
                have hg2 := gr_none G5.out hg
                obtain ⟨_, _, _, _, _, _, _, _, _, _, df⟩ := (I1.out.keep0 hg2).at l hln
                exact ⟨⟨hg2.cell c0 (by simp), hg2.cell c1 (by simp), hg2.cell c2 (by simp)⟩, ⟨hg2.cell d0 (by simp), hg2.cell d1 (by simp), hg2.cell d2 (by simp)⟩, df⟩
              clear c0 c1 c2 c3 d0 d1 d2 d3 eM hrl
              have GG : w5.grownBy w5 none := gr_refl _ _
              obtain ⟨⟨s0, s1, s2⟩, ⟨s3, s4, s5⟩, sf⟩ := CX.out w5 GG
              obtain ⟨x0, x1, x2⟩ := XC.out w5 GG
              clear sf
              have hn1 : wr.heap.size ≠ br := by omega
              have hn2 : wr.heap.size ≠ bo := by omega
              have hn3 : br ≠ wr.heap.size := by omega
              have hn4 : bo ≠ wr.heap.size := by omega
              have hl1 : (0 : Int) ≤ ((l : Nat) : Int) := by omega
              have hl2 : ((l : Nat) : Int) < (n : Int) := by omega
              go_region_with
                (first
                  | (go_at_call 139; (try clear hw1); refine (qTimes_at _ _ Z (q c) L L _ (D3.out.keep0 (gr_none G5.out (by first | exact gr_none GG (gr_d _) | exact gr_none GG gr_d1 | exact GG))) (Y3.out.keep0 (gr_none G5.out (by first | exact gr_none GG (gr_d _) | exact gr_none GG gr_d1 | exact GG))) (by omega)).mono ?_; rintro e wa ⟨va, rfl, fa, ga⟩; obtain ⟨ao, al, ac, ao2, al2, ac2, rfl⟩ := fa.shape; have FA := hide fa; have GG : w5.grownBy wa none := gr_none (by first | exact gr_none GG (gr_d _) | exact gr_none GG gr_d1 | exact GG) ga; obtain ⟨⟨a0, a1, a2⟩, ⟨a3, a4, a5⟩, _⟩ := CX.out wa GG; obtain ⟨z0, z1, z2⟩ := XC.out wa GG; clear fa ga)
                  | (go_at_call 138; (try clear hw1); refine (qMinus_at _ _ rl (Z * q c) L (L + L + 1) _ (C3.out.keep0 (gr_none G5.out (by first | exact gr_none GG (gr_d _) | exact gr_none GG gr_d1 | exact GG))) (FA.out.keep0 (by first | exact gr_d _ | exact gr_d1 | exact gr_refl _ _)) (by omega)).mono ?_; rintro e wf ⟨v6, rfl, f1, f2⟩; obtain ⟨fo, fl, fc, fo2, fl2, fc2, rfl⟩ := f1.shape; have GG : w5.grownBy wf none := gr_none (by first | exact gr_none GG (gr_d _) | exact gr_none GG gr_d1 | exact GG) f2; obtain ⟨⟨b0, b1, b2⟩, ⟨b3, b4, b5⟩, rf⟩ := CX.out wf GG; obtain ⟨q0, q1, q2⟩ := XC.out wf GG; have rf0 := rf (l * 3); have rf1 := rf (l * 3 + 1); have rf2 := rf (l * 3 + 2); clear rf))
              all_goals
                have HS : Hid (rl - Z * q c = parS q m (parC p q m K t) i l) := by
                  show _ = _
                  have h1 := HLL.out
                  have h2 := HM.out
                  unfold parS
                  rw [if_pos ⟨by omega, by omega⟩, ← hEK.out, FO.out, ← HZ.out, HRL.out, show l - i = c by omega]
                rw [HS.out] at f1 ⊢
                have hfit : FitW L (parS q m (parC p q m K t) i l) := by rw [EI.out]; exact HFR.out (t + 1) (by omega) l
                have G6 := gr_none G5.out GG
                obtain ⟨r1', r2', r3'⟩ := (I1.out.keep0 G6).set l hln (f1.tight hfit)
                have gall := gr_own2 (gr_none I3.out G6) r2' (fun b e => by cases e; exact hbr1)
                have k2' := (I2.out.keep0 G6).keep r2' r3' (by simp; omega)
                generalize (((_ : World).setCell ⟨br, l * 3, none⟩ (.bool (rB (parS q m (parC p q m K t) i l)))).setCell ⟨br, l * 3 + 1, none⟩ (.slice fo fl fc)).setCell ⟨br, l * 3 + 2, none⟩ (.slice fo2 fl2 fc2) = W6 at r1' r2' r3' k2' gall ⊢
                have R1 : Hid (FRow W6 br n (parM q m (parC p q m K t) i (c + 1)) L) := r1'.congr (fun j _ => by rw [HLL.out]; exact parM_put q m (parC p q m K t) i c j)
                have R2 := hide k2'
                have R3 := hide gall
                clear r1' r2' r3' k2' gall f1 f2 b0 b1 b2 b3 b4 b5 q0 q1 q2 rf0 rf1 rf2 GG G6 hfit
                go_wp2
                go_roundw
                case rel => exact ⟨c + 1, by have := HM.out; omega, by go_num, R1.out, R2.out, R3.out⟩
                case measure => simp [intOf]; omega
            · have hcc : c = m + 1 := by have := HM.out; omega
              subst hcc
              go_wp2
              go_roundw
              case rel =>
                refine ⟨t + 1, by omega, by have := EI.out; go_num, I1.out.congr (fun j _ => ?_), I2.out, I3.out⟩
                rw [parM_end]
                show _ = parS q m (parC p q m K t) (K - 1 - t) j
                rw [EI.out]
              case measure => simp [intOf]
    · obtain rfl : t = K := by omega
      have e0 : ((t : Int) - t - 1) = -1 := by omega
      rw [e0]
      go_wp2_with (go_at_call 202; refine (ptrim_at br n rc _ L wr T1.out hrc (by unfold maxLen; omega)).mono ?_; rintro e w3 ⟨rfl, g3⟩; have G3 := hide g3; clear g3)
      go_ret2
      refine ⟨_, _, rfl, ⟨_, _, rfl, Nat.le_refl _, by unfold maxLen; omega, fun _ => ⟨bo, rfl, ?_⟩⟩, ⟨_, _, rfl, Nat.le_trans (trimLen_le _ _) hrc, by unfold maxLen; omega, fun _ => ⟨br, rfl, ?_⟩⟩, gr_none T3.out G3.out⟩
      · exact (T2.out.keep0 G3.out).congr (fun j hj => by unfold parT; rw [if_neg (by omega)])
      · exact (T1.out.keep0 G3.out).part (trimLen_le _ _)
end Go.Proofs.YtbihhkcgiepgaaeGreatDoor
