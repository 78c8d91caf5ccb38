/- voltaiclaw: LineSettles. -/
import Derived.Test.YtdpagdlmpajjkafGreatDoorXVd
import Derived.Test.YtdpagdlmpajjkafGreatDoorXVf
import Derived.Test.YtdpagdlmpajjkafGreatDoorXVBoM
namespace Go.Proofs.YtdpagdlmpajjkafGreatDoor
open Go.RowKit
set_option linter.unusedVariables false
set_option linter.unusedSimpArgs false
theorem row_cells {w : World} {ao : Option Addr} {n cap : Nat} {R : Nat → Rat} (h : RowG sv w (.slice ao (n + 1) cap) (textsL R (n + 1))) : n + 1 ≤ cap ∧ cap ≤ maxLen ∧ ∃ b off, ao = some ⟨b, off, none⟩ ∧ ∀ i, i < n + 1 → w.cell? ⟨b, off + i, none⟩ = some (.string ⟨(qtext (R i)).toArray⟩) := by
  obtain ⟨ao', cap', e, h1, h2, h3⟩ := h
  rw [textsL_length] at e h1
  injection e with e1 e2 e3
  subst e1 e3
  obtain ⟨b, off, e0, _, _⟩ := h3 0 (by rw [textsL_length]; omega)
  refine ⟨h1, h2, b, off, e0, fun i hi => ?_⟩
  obtain ⟨b', off', e1, _, hc⟩ := h3 i (by rw [textsL_length]; exact hi)
  rw [e0] at e1
  have e5 := Option.some.inj e1
  injection e5 with e6 e7
  subst e6 e7
  rw [hc]
  simp [textsL]
def SettR (w0 : World) (k : Nat) (iv : Value) (wr : World) : Prop := ∃ n j : Nat, j ≤ k ∧ n = j + 2 ∧ iv = .int .i64 (n : Int) ∧ w0.grownBy wr none
theorem sign_zero (q : Rat) : (q.num.sign == 0) = decide (q = 0) := by
  by_cases h : q = 0
  · subst h; rfl
  · rw [decide_eq_false h, beq_eq_false_iff_ne]
    intro e
    exact h (Rat.num_eq_zero.1 (Int.sign_eq_zero_iff_zero.1 e))
set_option maxHeartbeats 32000000 in
set_option maxRecDepth 100000 in
theorem lineSettles_any (sa sb sc sd : ByteArray) (k : Int) (m : Int) (w : World) (ha : sa.size ≤ 1048576) (hb : sb.size ≤ 1048576) (hc : sc.size ≤ 1048576) (hd : sd.size ≤ 1048576) (hml : w.cell? ⟨0, 0, none⟩ = some (.int .i64 m)) (htab : Tab10 w) :
    Calls Tryz.prog 7 #[.string sa, .string sb, .string sc, .string sd, .int .i64 k] w fun e w' => e = .returned (.bool true) ∧ w.grownBy w' none := by
  have HM := hide hml
  have HT := hide htab
  clear hml htab
  obtain ⟨v, hv⟩ : ∃ p, p = ofR sa.data.toList := ⟨_, rfl⟩
  obtain ⟨s, hs⟩ : ∃ p, p = ofR sb.data.toList := ⟨_, rfl⟩
  obtain ⟨z, hz⟩ : ∃ p, p = ofR sc.data.toList := ⟨_, rfl⟩
  obtain ⟨r, hr⟩ : ∃ p, p = ofR sd.data.toList := ⟨_, rfl⟩
  have Fv : Hid (FitW 131074 v) := text_fit hv ha
  have Fs : Hid (FitW 131074 s) := text_fit hs hb
  have Fz : Hid (FitW 131074 z) := text_fit hz hc
  have Fr : Hid (FitW 131074 r) := text_fit hr hd
  have HV := hide hv
  have HS := hide hs
  have HZ := hide hz
  have HR := hide hr
  clear hv hs hz hr
  by_cases hk : 0 ≤ k ∧ k ≤ 50
  · obtain ⟨k, rfl⟩ : ∃ n : Nat, k = (n : Int) := ⟨k.toNat, by omega⟩
    have hk2 : k ≤ 50 := by omega
    by_cases hbad : 0 < z ∧ 0 ≤ s ∧ 0 ≤ r
    · obtain ⟨hz0, hs1, hr1⟩ := hbad
      have N1 : Hid (s + z ≠ 0) := by unfold Hid; grind
      have N2 : Hid (r + z ≠ 0) := by unfold Hid; grind
      obtain ⟨W, hW⟩ : ∃ x, x = v * z / (s + z) := ⟨_, rfl⟩
      obtain ⟨f, hF⟩ : ∃ x, x = W + W * ((r - z) / (r + z)) := ⟨_, rfl⟩
      obtain ⟨g, hG⟩ : ∃ x, x = (s - z) / (s + z) * ((r - z) / (r + z)) := ⟨_, rfl⟩
      have HB : Hid (∀ i, i ≤ 50 → FitW 42468112 (bo W f g i)) := fun i hi => fit_mono (bo_all_fit Fv.out Fs.out Fz.out Fr.out N1.out N2.out hW hF hG i hi) (by decide)
      have HW := hide hW
      have HF := hide hF
      have HG := hide hG
      clear hW hF hG hk
      go_enter Tryz.func7, Tryz.ntmps7
      go_wp2_with fail
      refine (echoes_at m w HM.out HT.out).mono ?_
      rintro e w1 ⟨rfl, g1⟩
      have G1 := hide g1
      clear g1
      go_wp2_with fail
      refine (bounce_ok sa sb sc sd v s z r k m 131074 w1 hk2 HV.out HS.out HZ.out HR.out (by omega) (by omega) (by omega) (by omega) Fv.out Fs.out Fz.out Fr.out (by decide) (gr_cell G1.out HM.out) 42468112 W f g HW.out HF.out HG.out hz0 hs1 hr1 HB.out (by decide) (HT.out.keep0 G1.out)).mono ?_
      rintro e w2 ⟨ao, cap, rfl, hrow, g2⟩
      have G2 := hide (gr_none G1.out g2)
      obtain ⟨hcap, hmax, bo1, off, rfl, hcl⟩ := row_cells hrow
      have ROW := hide hcl
      clear hrow hcl
      clear g2
      go_wp2_with fail
      refine (rOfV_at sb s m 131074 w2 HS.out (by omega) Fs.out (gr_cell G2.out HM.out)).mono ?_
      rintro e w3 ⟨bs, rfl, p3, g3⟩
      have P3 := hide p3
      have G3 := hide g3
      clear p3 g3
      go_wp2_with fail
      refine (rOfV_at sc z m 131074 w3 HZ.out (by omega) Fz.out (gr_cell (gr_none G2.out G3.out) HM.out)).mono ?_
      rintro e w4 ⟨bz, rfl, p4, g4⟩
      have P4 := hide p4
      have G4 := hide (gr_none G3.out g4)
      have P3b := hide (P3.out.keep0 g4)
      clear p4 g4 P3
      go_wp2_with fail
      refine (rOfV_at sd r m 131074 w4 HR.out (by omega) Fr.out (gr_cell (gr_none G2.out G4.out) HM.out)).mono ?_
      rintro e w5 ⟨br, rfl, p5, g5⟩
      have PR := hide p5
      have G5 := hide (gr_none G4.out g5)
      have PS := hide (P3b.out.keep0 g5)
      have PZ := hide (P4.out.keep0 g5)
      have GA := hide (gr_none G2.out G5.out)
      clear p5 g5 P3b P4
      go_wp2_with fail
      refine (rAddS_at bs br s r 131074 131074 w5 (PS.out.x (by decide)) (PR.out.x (by decide)) (by decide)).mono ?_
      rintro e w6 ⟨ba, rfl, p6, g6, _⟩
      have P6 := hide p6.v
      have G6 := hide (gr_none G5.out g6)
      have PS6 := hide (PS.out.keep0 g6)
      have PZ6 := hide (PZ.out.keep0 g6)
      have PR6 := hide (PR.out.keep0 g6)
      clear p6 g6 PS PZ PR
      go_wp2_with fail
      refine (rSignV_at ba (s + r) _ w6 P6.out).mono ?_
      rintro e w7 ⟨rfl, hw7⟩
      rw [hw7]
      clear hw7
      obtain ⟨sg, hsg⟩ : ∃ x, x = (s + r).num.sign := ⟨_, rfl⟩
      rw [← hsg]
      by_cases hsr : s + r = 0
      · have hsd : (sg == 0) = true := by rw [hsg, sign_zero]; exact decide_eq_true hsr
        have HSG := hide hsg
        clear hsg
        go_wp2
        go_ret
        exact ⟨rfl, gr_none G2.out G6.out⟩
      · have hsd : (sg == 0) = false := by rw [hsg, sign_zero]; exact decide_eq_false hsr
        have HSG := hide hsg
        have NR := hide hsr
        clear hsg hsr
        go_wp2_with fail
        refine (rOfV_at sa v m 131074 w6 HV.out (by omega) Fv.out (gr_cell (gr_none G2.out G6.out) HM.out)).mono ?_
        rintro e wV ⟨bV, rfl, p, gg⟩
        have QV := hide (p.mono (show _ ≤ 131074 by decide))
        have GxV := hide (gr_none G6.out gg)
        replace PS6 := hide (PS6.out.keep0 gg)
        replace PZ6 := hide (PZ6.out.keep0 gg)
        replace PR6 := hide (PR6.out.keep0 gg)
        clear p gg
        go_wp2_with fail
        refine (rMulSX_at bV br v r 131074 131074 wV (QV.out.x (by decide)) (PR6.out.x (by decide)) (by decide)).mono ?_
        rintro e wA ⟨bA, rfl, p, gg, _⟩
        have QA := hide (p.v.mono (show _ ≤ 262150 by decide))
        have GxA := hide (gr_none GxV.out gg)
        replace PS6 := hide (PS6.out.keep0 gg)
        replace PZ6 := hide (PZ6.out.keep0 gg)
        replace PR6 := hide (PR6.out.keep0 gg)
        replace QV := hide (QV.out.keep0 gg)
        clear p gg
        go_wp2_with fail
        refine (rAddS_at bs br s r 131074 131074 wA (PS6.out.x (by decide)) (PR6.out.x (by decide)) (by decide)).mono ?_
        rintro e wC ⟨bC, rfl, p, gg, _⟩
        have QC := hide (p.v.mono (show _ ≤ 262151 by decide))
        have GxC := hide (gr_none GxA.out gg)
        replace PS6 := hide (PS6.out.keep0 gg)
        replace PZ6 := hide (PZ6.out.keep0 gg)
        replace PR6 := hide (PR6.out.keep0 gg)
        replace QV := hide (QV.out.keep0 gg)
        replace QA := hide (QA.out.keep0 gg)
        clear p gg
        go_wp2_with fail
        refine (rQuoSX_at bA bC (v * r) (s + r) 262150 262151 wC (QA.out.x (by decide)) (QC.out.x (by decide)) NR.out (by decide)).mono ?_
        rintro e wD ⟨bD, rfl, p, gg, _⟩
        have QD := hide (p.v.mono (show _ ≤ 524303 by decide))
        have GxD := hide (gr_none GxC.out gg)
        replace PS6 := hide (PS6.out.keep0 gg)
        replace PZ6 := hide (PZ6.out.keep0 gg)
        replace PR6 := hide (PR6.out.keep0 gg)
        replace QV := hide (QV.out.keep0 gg)
        replace QA := hide (QA.out.keep0 gg)
        replace QC := hide (QC.out.keep0 gg)
        clear p gg
        go_wp2_with fail
        refine (rSubS_at bs bz s z 131074 131074 wD (PS6.out.x (by decide)) (PZ6.out.x (by decide)) (by decide)).mono ?_
        rintro e wE ⟨bE, rfl, p, gg, _⟩
        have QE := hide (p.v.mono (show _ ≤ 262151 by decide))
        have GxE := hide (gr_none GxD.out gg)
        replace PS6 := hide (PS6.out.keep0 gg)
        replace PZ6 := hide (PZ6.out.keep0 gg)
        replace PR6 := hide (PR6.out.keep0 gg)
        replace QV := hide (QV.out.keep0 gg)
        replace QA := hide (QA.out.keep0 gg)
        replace QC := hide (QC.out.keep0 gg)
        replace QD := hide (QD.out.keep0 gg)
        clear p gg
        go_wp2_with fail
        refine (rAddS_at bs bz s z 131074 131074 wE (PS6.out.x (by decide)) (PZ6.out.x (by decide)) (by decide)).mono ?_
        rintro e wF ⟨bF, rfl, p, gg, _⟩
        have QF := hide (p.v.mono (show _ ≤ 262151 by decide))
        have GxF := hide (gr_none GxE.out gg)
        replace PS6 := hide (PS6.out.keep0 gg)
        replace PZ6 := hide (PZ6.out.keep0 gg)
        replace PR6 := hide (PR6.out.keep0 gg)
        replace QV := hide (QV.out.keep0 gg)
        replace QA := hide (QA.out.keep0 gg)
        replace QC := hide (QC.out.keep0 gg)
        replace QD := hide (QD.out.keep0 gg)
        replace QE := hide (QE.out.keep0 gg)
        clear p gg
        go_wp2_with fail
        refine (rQuoSX_at bE bF (s - z) (s + z) 262151 262151 wF (QE.out.x (by decide)) (QF.out.x (by decide)) N1.out (by decide)).mono ?_
        rintro e wG ⟨bG, rfl, p, gg, _⟩
        have QG := hide (p.v.mono (show _ ≤ 524304 by decide))
        have GxG := hide (gr_none GxF.out gg)
        replace PS6 := hide (PS6.out.keep0 gg)
        replace PZ6 := hide (PZ6.out.keep0 gg)
        replace PR6 := hide (PR6.out.keep0 gg)
        replace QV := hide (QV.out.keep0 gg)
        replace QA := hide (QA.out.keep0 gg)
        replace QC := hide (QC.out.keep0 gg)
        replace QD := hide (QD.out.keep0 gg)
        replace QE := hide (QE.out.keep0 gg)
        replace QF := hide (QF.out.keep0 gg)
        clear p gg
        go_wp2_with fail
        refine (rSubS_at br bz r z 131074 131074 wG (PR6.out.x (by decide)) (PZ6.out.x (by decide)) (by decide)).mono ?_
        rintro e wH ⟨bH, rfl, p, gg, _⟩
        have QH := hide (p.v.mono (show _ ≤ 262151 by decide))
        have GxH := hide (gr_none GxG.out gg)
        replace PS6 := hide (PS6.out.keep0 gg)
        replace PZ6 := hide (PZ6.out.keep0 gg)
        replace PR6 := hide (PR6.out.keep0 gg)
        replace QV := hide (QV.out.keep0 gg)
        replace QA := hide (QA.out.keep0 gg)
        replace QC := hide (QC.out.keep0 gg)
        replace QD := hide (QD.out.keep0 gg)
        replace QE := hide (QE.out.keep0 gg)
        replace QF := hide (QF.out.keep0 gg)
        replace QG := hide (QG.out.keep0 gg)
        clear p gg
        go_wp2_with fail
        refine (rAddS_at br bz r z 131074 131074 wH (PR6.out.x (by decide)) (PZ6.out.x (by decide)) (by decide)).mono ?_
        rintro e wK ⟨bK, rfl, p, gg, _⟩
        have QK := hide (p.v.mono (show _ ≤ 262151 by decide))
        have GxK := hide (gr_none GxH.out gg)
        replace PS6 := hide (PS6.out.keep0 gg)
        replace PZ6 := hide (PZ6.out.keep0 gg)
        replace PR6 := hide (PR6.out.keep0 gg)
        replace QV := hide (QV.out.keep0 gg)
        replace QA := hide (QA.out.keep0 gg)
        replace QC := hide (QC.out.keep0 gg)
        replace QD := hide (QD.out.keep0 gg)
        replace QE := hide (QE.out.keep0 gg)
        replace QF := hide (QF.out.keep0 gg)
        replace QG := hide (QG.out.keep0 gg)
        replace QH := hide (QH.out.keep0 gg)
        clear p gg
        go_wp2_with fail
        refine (rQuoSX_at bH bK (r - z) (r + z) 262151 262151 wK (QH.out.x (by decide)) (QK.out.x (by decide)) N2.out (by decide)).mono ?_
        rintro e wN ⟨bN, rfl, p, gg, _⟩
        have QN := hide (p.v.mono (show _ ≤ 524304 by decide))
        have GxN := hide (gr_none GxK.out gg)
        replace PS6 := hide (PS6.out.keep0 gg)
        replace PZ6 := hide (PZ6.out.keep0 gg)
        replace PR6 := hide (PR6.out.keep0 gg)
        replace QV := hide (QV.out.keep0 gg)
        replace QA := hide (QA.out.keep0 gg)
        replace QC := hide (QC.out.keep0 gg)
        replace QD := hide (QD.out.keep0 gg)
        replace QE := hide (QE.out.keep0 gg)
        replace QF := hide (QF.out.keep0 gg)
        replace QG := hide (QG.out.keep0 gg)
        replace QH := hide (QH.out.keep0 gg)
        replace QK := hide (QK.out.keep0 gg)
        clear p gg
        go_wp2_with fail
        refine (rMulSX_at bG bN ((s - z) / (s + z)) ((r - z) / (r + z)) 524304 524304 wN (QG.out.x (by decide)) (QN.out.x (by decide)) (by decide)).mono ?_
        rintro e wP ⟨bP, rfl, p, gg, _⟩
        have QP := hide (p.v.mono (show _ ≤ 1048610 by decide))
        have GxP := hide (gr_none GxN.out gg)
        replace PS6 := hide (PS6.out.keep0 gg)
        replace PZ6 := hide (PZ6.out.keep0 gg)
        replace PR6 := hide (PR6.out.keep0 gg)
        replace QV := hide (QV.out.keep0 gg)
        replace QA := hide (QA.out.keep0 gg)
        replace QC := hide (QC.out.keep0 gg)
        replace QD := hide (QD.out.keep0 gg)
        replace QE := hide (QE.out.keep0 gg)
        replace QF := hide (QF.out.keep0 gg)
        replace QG := hide (QG.out.keep0 gg)
        replace QH := hide (QH.out.keep0 gg)
        replace QK := hide (QK.out.keep0 gg)
        replace QN := hide (QN.out.keep0 gg)
        clear p gg
        rw [← HG.out] at QP
        have hkc : (k : Int) + 1 ≤ 9223372036854775807 := by omega
        unfold maxLen at hmax
        obtain ⟨KN, hKN⟩ : ∃ x, x = k + 1 := ⟨_, rfl⟩
        rw [← hKN] at hcap ROW ⊢
        have HKN := hide hKN
        have hkn1 : KN ≤ 51 := by omega
        have hkn2 : KN ≤ k + 1 := by omega
        have hkn3 : k + 1 ≤ KN := by omega
        clear hKN hkc
        go_wp2
        go_loopw [18] (fun iv wr => Hid (SettR wP k iv wr)) (fun iv _ => k + 3 - (intOf iv).toNat)
        case atStart => exact ⟨2, 0, Nat.zero_le _, rfl, rfl, gr_refl _ _⟩
        case round =>
          obtain ⟨n, j, hj, hnj, rfl, hgr⟩ := hrel.out
          have GR := hide hgr
          have HNJ := hide hnj
          have hnl : 2 ≤ n := by omega
          have hjn : j < n := by omega
          clear hrel hgr hnj
          by_cases hlt : n < KN
          · obtain ⟨tA, htA⟩ : ∃ b : ByteArray, b = ⟨(qtext (bo W f g n)).toArray⟩ := ⟨_, rfl⟩
            obtain ⟨tB, htB⟩ : ∃ b : ByteArray, b = ⟨(qtext (bo W f g j)).toArray⟩ := ⟨_, rfl⟩
            have hsA : tA.size ≤ 900000000 := by
              have h := text_size (HB.out n (by omega)) (by decide)
              rw [← htA] at h
              omega
            have hsB : tB.size ≤ 900000000 := by
              have h := text_size (HB.out j (by omega)) (by decide)
              rw [← htB] at h
              omega
            have HTA : Hid (bo W f g n = ofR tA.data.toList) := by rw [htA]; exact text_of _
            have HTB : Hid (bo W f g j = ofR tB.data.toList) := by rw [htB]; exact text_of _
            have HO : Hid (ordX (bo W f g n - v * r / (s + r)) (g * (bo W f g j - v * r / (s + r))) = 0) := by unfold Hid; rw [HNJ.out]; exact (ordX_zero _ _).2 (bo_settles N1.out N2.out NR.out HW.out HF.out HG.out j)
            have GW2 := hide (gr_none GxP.out GR.out)
            have CA : Hid (wr.cell? ⟨bo1, off + n, none⟩ = some (.string tA)) := by have h := ROW.out n (by omega); rw [← htA] at h; exact gr_cell GW2.out h
            have CB : Hid (wr.cell? ⟨bo1, off + j, none⟩ = some (.string tB)) := by have h := ROW.out j (by omega); rw [← htB] at h; exact gr_cell GW2.out h
            clear htA htB
            have ca := CA.out
            have cb := CB.out
            have GG : wr.grownBy wr none := gr_refl _ _
            have hw1 : IntKind.i64.wrap ((n : Int) - 2) = (j : Int) := by have := HNJ.out; rw [IntWalk.i64_in _ ⟨by omega, by omega⟩]; omega
            have hi0 : (0 : Int) ≤ (n : Int) := by omega
            have hi1 : (n : Int) < (KN : Int) := by omega
            have hi2 : (0 : Int) ≤ (j : Int) := by omega
            have hi3 : (j : Int) < (KN : Int) := by omega
            go_upto_region 14 with fail
            go_region_held3 (fun w' => w'.cell? ⟨bo1, off + n, none⟩ = some (.string tA) ∧ w'.cell? ⟨bo1, off + j, none⟩ = some (.string tB)) (go_keep)
                (first | (go_at_call_of 11 (Value.string tA); refine (rOfV_at tA (bo W f g n) m 42468112 _ HTA.out (by omega) (HB.out n (by omega)) (gr_cell (gr_none (gr_none (gr_none G2.out GxP.out) GR.out) (by first | exact gr_none GG (gr_d _) | exact gr_none GG gr_d1 | exact GG | exact gr_alloc GG _ | exact gr_alloc (gr_none GG gr_d1) _ | exact gr_alloc (gr_none GG (gr_d _)) _)) HM.out)).mono ?_; rintro e wa ⟨ba, rfl, pa, ga⟩; have KP := gr_none (by first | exact gr_d _ | exact gr_d1 | exact gr_alloc gr_d1 _ | exact gr_alloc (gr_d _) _ | exact gr_alloc (gr_refl _ _) _ | exact gr_refl _ _) ga; have GG : wr.grownBy wa none := gr_none (by first | exact gr_none GG (gr_d _) | exact gr_none GG gr_d1 | exact GG | exact gr_alloc GG _ | exact gr_alloc (gr_none GG gr_d1) _ | exact gr_alloc (gr_none GG (gr_d _)) _) ga; clear KP; have c_a1 := gr_cell GG CA.out; have c_a2 := gr_cell GG CB.out) | (go_at_call_of 35 (Value.pointer (some ⟨ba, 0, none⟩)); refine (rSubS_at ba bD (bo W f g n) (v * r / (s + r)) 42468112 524303 _ ((pa.keep0 (by first | exact gr_d _ | exact gr_d1 | exact gr_alloc gr_d1 _ | exact gr_alloc (gr_d _) _ | exact gr_alloc (gr_refl _ _) _ | exact gr_refl _ _)).x (by decide)) ((QD.out.keep0 (gr_none GR.out (by first | exact gr_none GG (gr_d _) | exact gr_none GG gr_d1 | exact GG | exact gr_alloc GG _ | exact gr_alloc (gr_none GG gr_d1) _ | exact gr_alloc (gr_none GG (gr_d _)) _))).x (by decide)) (by decide)).mono ?_; rintro e wb ⟨bb, rfl, pb, gb, _⟩; have KP := gr_none (by first | exact gr_d _ | exact gr_d1 | exact gr_alloc gr_d1 _ | exact gr_alloc (gr_d _) _ | exact gr_alloc (gr_refl _ _) _ | exact gr_refl _ _) gb; have GG : wr.grownBy wb none := gr_none (by first | exact gr_none GG (gr_d _) | exact gr_none GG gr_d1 | exact GG | exact gr_alloc GG _ | exact gr_alloc (gr_none GG gr_d1) _ | exact gr_alloc (gr_none GG (gr_d _)) _) gb; (try have pa := pa.keep0 KP); clear KP; have c_b1 := gr_cell GG CA.out; have c_b2 := gr_cell GG CB.out) | (go_at_call_of 11 (Value.string tB); refine (rOfV_at tB (bo W f g j) m 42468112 _ HTB.out (by omega) (HB.out j (by omega)) (gr_cell (gr_none (gr_none (gr_none G2.out GxP.out) GR.out) (by first | exact gr_none GG (gr_d _) | exact gr_none GG gr_d1 | exact GG | exact gr_alloc GG _ | exact gr_alloc (gr_none GG gr_d1) _ | exact gr_alloc (gr_none GG (gr_d _)) _)) HM.out)).mono ?_; rintro e wc ⟨bc, rfl, pc, gc⟩; have KP := gr_none (by first | exact gr_d _ | exact gr_d1 | exact gr_alloc gr_d1 _ | exact gr_alloc (gr_d _) _ | exact gr_alloc (gr_refl _ _) _ | exact gr_refl _ _) gc; have GG : wr.grownBy wc none := gr_none (by first | exact gr_none GG (gr_d _) | exact gr_none GG gr_d1 | exact GG | exact gr_alloc GG _ | exact gr_alloc (gr_none GG gr_d1) _ | exact gr_alloc (gr_none GG (gr_d _)) _) gc; (try have pa := pa.keep0 KP); (try have pb := pb.keep0 KP); clear KP; have c_c1 := gr_cell GG CA.out; have c_c2 := gr_cell GG CB.out) | (go_at_call_of 35 (Value.pointer (some ⟨bc, 0, none⟩)); refine (rSubS_at bc bD (bo W f g j) (v * r / (s + r)) 42468112 524303 _ ((pc.keep0 (by first | exact gr_d _ | exact gr_d1 | exact gr_alloc gr_d1 _ | exact gr_alloc (gr_d _) _ | exact gr_alloc (gr_refl _ _) _ | exact gr_refl _ _)).x (by decide)) ((QD.out.keep0 (gr_none GR.out (by first | exact gr_none GG (gr_d _) | exact gr_none GG gr_d1 | exact GG | exact gr_alloc GG _ | exact gr_alloc (gr_none GG gr_d1) _ | exact gr_alloc (gr_none GG (gr_d _)) _))).x (by decide)) (by decide)).mono ?_; rintro e wd ⟨bd, rfl, pd, gd, _⟩; have KP := gr_none (by first | exact gr_d _ | exact gr_d1 | exact gr_alloc gr_d1 _ | exact gr_alloc (gr_d _) _ | exact gr_alloc (gr_refl _ _) _ | exact gr_refl _ _) gd; have GG : wr.grownBy wd none := gr_none (by first | exact gr_none GG (gr_d _) | exact gr_none GG gr_d1 | exact GG | exact gr_alloc GG _ | exact gr_alloc (gr_none GG gr_d1) _ | exact gr_alloc (gr_none GG (gr_d _)) _) gd; (try have pb := pb.keep0 KP); (try have pc := pc.keep0 KP); clear KP; have c_d1 := gr_cell GG CA.out; have c_d2 := gr_cell GG CB.out) | (go_at_call 15; refine (rMulSX_at bP bd g (bo W f g j - v * r / (s + r)) 1048610 42992418 _ ((QP.out.keep0 (gr_none GR.out (by first | exact gr_none GG (gr_d _) | exact gr_none GG gr_d1 | exact GG | exact gr_alloc GG _ | exact gr_alloc (gr_none GG gr_d1) _ | exact gr_alloc (gr_none GG (gr_d _)) _))).x (by decide)) (pd.keep0 (by first | exact gr_d _ | exact gr_d1 | exact gr_alloc gr_d1 _ | exact gr_alloc (gr_d _) _ | exact gr_alloc (gr_refl _ _) _ | exact gr_refl _ _)).x (by decide)).mono ?_; rintro e we ⟨be, rfl, pe, ge, _⟩; have KP := gr_none (by first | exact gr_d _ | exact gr_d1 | exact gr_alloc gr_d1 _ | exact gr_alloc (gr_d _) _ | exact gr_alloc (gr_refl _ _) _ | exact gr_refl _ _) ge; have GG : wr.grownBy we none := gr_none (by first | exact gr_none GG (gr_d _) | exact gr_none GG gr_d1 | exact GG | exact gr_alloc GG _ | exact gr_alloc (gr_none GG gr_d1) _ | exact gr_alloc (gr_none GG (gr_d _)) _) ge; (try have pb := pb.keep0 KP); (try have pd := pd.keep0 KP); clear KP; have c_e1 := gr_cell GG CA.out; have c_e2 := gr_cell GG CB.out) | (go_at_call 29; refine (ratCmpX_at bb be (bo W f g n - v * r / (s + r)) (g * (bo W f g j - v * r / (s + r))) 42992418 44041030 _ (pb.keep0 (by first | exact gr_d _ | exact gr_d1 | exact gr_alloc gr_d1 _ | exact gr_alloc (gr_d _) _ | exact gr_alloc (gr_refl _ _) _ | exact gr_refl _ _)).x (pe.keep0 (by first | exact gr_d _ | exact gr_d1 | exact gr_alloc gr_d1 _ | exact gr_alloc (gr_d _) _ | exact gr_alloc (gr_refl _ _) _ | exact gr_refl _ _)).x (by decide)).mono ?_; rintro e wf ⟨rfl, gf⟩; have KP := gr_none (by first | exact gr_d _ | exact gr_d1 | exact gr_alloc gr_d1 _ | exact gr_alloc (gr_d _) _ | exact gr_alloc (gr_refl _ _) _ | exact gr_refl _ _) gf; have GG : wr.grownBy wf none := gr_none (by first | exact gr_none GG (gr_d _) | exact gr_none GG gr_d1 | exact GG | exact gr_alloc GG _ | exact gr_alloc (gr_none GG gr_d1) _ | exact gr_alloc (gr_none GG (gr_d _)) _) gf; clear KP; have c_f1 := gr_cell GG CA.out; have c_f2 := gr_cell GG CB.out; rw [HO.out]))
            all_goals
              have GF := hide (gr_none GR.out GG)
              clear GG
              go_wp2
              go_roundw
              case rel => exact ⟨n + 1, j + 1, by omega, (by have := HNJ.out; omega), by go_num, GF.out⟩
              case measure => simp [intOf]; omega
          · go_wp2
            go_ret
            exact ⟨rfl, gr_none (gr_none G2.out GxP.out) GR.out⟩
    · have hnz := hbad
      go_enter Tryz.func7, Tryz.ntmps7
      go_wp2_with fail
      refine (echoes_at m w HM.out HT.out).mono ?_
      rintro e w1 ⟨rfl, g1⟩
      have G1 := hide g1
      clear g1
      go_wp2_with fail
      refine (bounce_bad sa sb sc sd v s z r k m 131074 w1 hk2 HV.out HS.out HZ.out HR.out (by omega) (by omega) (by omega) (by omega) Fv.out Fs.out Fz.out Fr.out (by decide) (gr_cell G1.out HM.out) hbad).mono ?_
      rintro e w2 ⟨rfl, g2⟩
      have G2 := hide (gr_none G1.out g2)
      clear g2
      go_wp2_with fail
      refine (rOfV_at sb s m 131074 w2 HS.out (by omega) Fs.out (gr_cell G2.out HM.out)).mono ?_
      rintro e w3 ⟨bs, rfl, p3, g3⟩
      have P3 := hide p3
      have G3 := hide g3
      clear p3 g3
      go_wp2_with fail
      refine (rOfV_at sc z m 131074 w3 HZ.out (by omega) Fz.out (gr_cell (gr_none G2.out G3.out) HM.out)).mono ?_
      rintro e w4 ⟨bz, rfl, p4, g4⟩
      have P4 := hide p4
      have G4 := hide (gr_none G3.out g4)
      have P3b := hide (P3.out.keep0 g4)
      clear p4 g4 P3
      go_wp2_with fail
      refine (rOfV_at sd r m 131074 w4 HR.out (by omega) Fr.out (gr_cell (gr_none G2.out G4.out) HM.out)).mono ?_
      rintro e w5 ⟨br, rfl, p5, g5⟩
      have PR := hide p5
      have G5 := hide (gr_none G4.out g5)
      have PS := hide (P3b.out.keep0 g5)
      have PZ := hide (P4.out.keep0 g5)
      have GA := hide (gr_none G2.out G5.out)
      clear p5 g5 P3b P4
      go_wp2
      go_ret
      exact ⟨rfl, GA.out⟩
  · go_enter Tryz.func7, Tryz.ntmps7
    go_wp2_with fail
    refine (echoes_at m w HM.out HT.out).mono ?_
    rintro e w1 ⟨rfl, g1⟩
    have G1 := hide g1
    clear g1
    go_wp2_with fail
    refine (bounce_many sa sb sc sd k w1 hk).mono ?_
    rintro e w2 ⟨rfl, g2⟩
    have G2 := hide (gr_none G1.out g2)
    clear g2
    go_wp2_with fail
    refine (rOfV_at sb s m 131074 w2 HS.out (by omega) Fs.out (gr_cell G2.out HM.out)).mono ?_
    rintro e w3 ⟨bs, rfl, p3, g3⟩
    have P3 := hide p3
    have G3 := hide g3
    clear p3 g3
    go_wp2_with fail
    refine (rOfV_at sc z m 131074 w3 HZ.out (by omega) Fz.out (gr_cell (gr_none G2.out G3.out) HM.out)).mono ?_
    rintro e w4 ⟨bz, rfl, p4, g4⟩
    have P4 := hide p4
    have G4 := hide (gr_none G3.out g4)
    have P3b := hide (P3.out.keep0 g4)
    clear p4 g4 P3
    go_wp2_with fail
    refine (rOfV_at sd r m 131074 w4 HR.out (by omega) Fr.out (gr_cell (gr_none G2.out G4.out) HM.out)).mono ?_
    rintro e w5 ⟨br, rfl, p5, g5⟩
    have PR := hide p5
    have G5 := hide (gr_none G4.out g5)
    have PS := hide (P3b.out.keep0 g5)
    have PZ := hide (P4.out.keep0 g5)
    have GA := hide (gr_none G2.out G5.out)
    clear p5 g5 P3b P4
    go_wp2
    go_ret
    exact ⟨rfl, GA.out⟩
end Go.Proofs.YtdpagdlmpajjkafGreatDoor
