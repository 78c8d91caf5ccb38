/- voltaiclaw: LineBounces. -/
import Derived.Test.YtdpagdlmpajjkafGreatDoorXVLawT
import Derived.Test.YtdpagdlmpajjkafGreatDoorXVSum
namespace Go.Proofs.YtdpagdlmpajjkafGreatDoor
open Go.RowKit
set_option linter.unusedVariables false
set_option linter.unusedSimpArgs false
def wvB (W a b : Rat) : Nat → Rat
  | 0 => W
  | n + 1 => wvB W a b n * (if (n + 1) % 2 = 0 then a else b)
def smB (W a b : Rat) : Nat → Rat
  | 0 => wvB W a b 0
  | n + 1 => smB W a b n + wvB W a b (n + 1)
def ptB (W a b : Rat) : Nat → Rat
  | 0 => 0
  | n + 1 => smB W a b n
theorem ptB_succ (W a b : Rat) : ∀ n, ptB W a b (n + 1) = ptB W a b n + wvB W a b n
  | 0 => by show wvB W a b 0 = 0 + wvB W a b 0; grind
  | _ + 1 => rfl
theorem wvB_two (W a b : Rat) (n : Nat) : wvB W a b (n + 2) = wvB W a b n * (a * b) := by
  show wvB W a b n * (if (n + 1) % 2 = 0 then a else b) * (if (n + 1 + 1) % 2 = 0 then a else b) = _
  by_cases h : (n + 1) % 2 = 0
  · rw [if_pos h, if_neg (by omega)]
    grind
  · rw [if_neg h, if_pos (by omega)]
    grind
theorem smB_two (W a b f : Rat) (hf : f = W + W * b) : ∀ n, smB W a b (n + 2) = f + (a * b) * smB W a b n
  | 0 => by
    have h := wvB_two W a b 0
    show wvB W a b 0 + wvB W a b 1 + wvB W a b 2 = f + (a * b) * wvB W a b 0
    have h1 : wvB W a b 1 = W * b := rfl
    have h0 : wvB W a b 0 = W := rfl
    rw [h, h1, h0, hf]
    grind
  | n + 1 => by
    have ih := smB_two W a b f hf n
    have h := wvB_two W a b (n + 1)
    show smB W a b (n + 2) + wvB W a b (n + 1 + 2) = f + (a * b) * (smB W a b n + wvB W a b (n + 1))
    rw [ih, h]
    grind
theorem smB_bo (W a b f g : Rat) (hf : f = W + W * b) (hg : g = a * b) : ∀ n, smB W a b n = bo W f g n ∧ smB W a b (n + 1) = bo W f g (n + 1)
  | 0 => by
    refine ⟨rfl, ?_⟩
    show wvB W a b 0 + wvB W a b 1 = 0 * g + f
    have h1 : wvB W a b 1 = W * b := rfl
    have h0 : wvB W a b 0 = W := rfl
    rw [h1, h0, hf]
    grind
  | n + 1 => by
    obtain ⟨h1, h2⟩ := smB_bo W a b f g hf hg n
    refine ⟨h2, ?_⟩
    rw [smB_two W a b f hf n, h1, ← hg]
    show f + g * bo W f g n = bo W f g n * g + f
    grind
theorem wvB_fit {W a b f g : Rat} {B : Nat} (hf : f = W + W * b) (hg : g = a * b) (h : ∀ i, i ≤ 50 → FitW B (bo W f g i)) : ∀ i, i ≤ 50 → FitW (B + B + 1) (wvB W a b i) := by
  intro i hi
  cases i with
  | zero => exact fit_mono (h 0 (by omega)) (by omega)
  | succ n =>
    have e : wvB W a b (n + 1) = bo W f g (n + 1) - bo W f g n := by
      rw [← (smB_bo W a b f g hf hg n).1, ← (smB_bo W a b f g hf hg n).2]
      show wvB W a b (n + 1) = smB W a b n + wvB W a b (n + 1) - smB W a b n
      grind
    rw [e]
    exact fit_sub (h _ hi) (h _ (by omega))
def WavR (w0 : World) (W a b : Rat) (KN : Nat) (ov iv : Value) (wr : World) : Prop :=
  ∃ (n : Nat) (bs : List Nat), 1 ≤ n ∧ n ≤ KN ∧ iv = .int .i64 (n : Int) ∧ bs.length = n ∧ OwnPt wr w0.heap.size ov bs ∧ w0.grownBy wr none ∧ ∀ j (h : j < bs.length), RV wr bs[j] (wvB W a b j) 84936225
def OutR (w0 : World) (KN : Nat) (iv : Value) (wr : World) : Prop := ∃ i : Nat, i ≤ KN ∧ iv = .int .i64 (i : Int) ∧ w0.grownBy wr none
def SumR (w0 : World) (bS : Nat) (W a b : Rat) (i : Nat) (jv : Value) (wr : World) : Prop := ∃ j : Nat, j ≤ i + 1 ∧ jv = .int .i64 (j : Int) ∧ w0.grownBy wr none ∧ RV wr bS (ptB W a b j) 42468112
theorem ptr_cells {w : World} {base n : Nat} {v : Value} {bs : List Nat} (h : OwnPt w base v bs) (hn : bs.length = n) (h0 : 0 < n) : ∃ b off cap, v = .slice (some ⟨b, off, none⟩) n cap ∧ n ≤ cap ∧ cap ≤ maxLen ∧ ∀ j (hj : j < bs.length), w.cell? ⟨b, off + j, none⟩ = some (.pointer (some ⟨bs[j], 0, none⟩)) := by
  obtain ⟨ao, cap, e, h1, h2, h3⟩ := h.1.row
  obtain ⟨b, off, e0, _, _⟩ := h3 0 (by omega)
  refine ⟨b, off, cap, by rw [e, e0, hn], by omega, h2, fun j hj => ?_⟩
  obtain ⟨b', off', e1, _, hc⟩ := h3 j hj
  rw [e0] at e1
  have e5 := Option.some.inj e1
  injection e5 with e6 e7
  subst e6 e7
  exact hc
set_option maxHeartbeats 32000000 in
set_option maxRecDepth 100000 in
theorem lineBounces_any (sa sb sc sd : ByteArray) (k : Int) (m : Int) (w : World) (ha : sa.size ≤ 1048576) (hb : sb.size ≤ 1048576) (hc : sc.size ≤ 1048576) (hd : sd.size ≤ 1048576) (hml : w.cell? ⟨0, 0, none⟩ = some (.int .i64 m)) (htab : Tab10 w) :
    Calls Tryz.prog 6 #[.string sa, .string sb, .string sc, .string sd, .int .i64 k] w fun e w' => e = .returned (.bool true) ∧ w.grownBy w' none := by
  have HM := hide hml
  have HT := hide htab
  clear hml htab
  obtain ⟨v, hv⟩ : ∃ p, p = ofR sa.data.toList := ⟨_, rfl⟩
  obtain ⟨s, hs⟩ : ∃ p, p = ofR sb.data.toList := ⟨_, rfl⟩
  obtain ⟨z, hz⟩ : ∃ p, p = ofR sc.data.toList := ⟨_, rfl⟩
  obtain ⟨r, hr⟩ : ∃ p, p = ofR sd.data.toList := ⟨_, rfl⟩
  have Fv : Hid (FitW 131074 v) := text_fit hv ha
  have Fs : Hid (FitW 131074 s) := text_fit hs hb
  have Fz : Hid (FitW 131074 z) := text_fit hz hc
  have Fr : Hid (FitW 131074 r) := text_fit hr hd
  have HV := hide hv
  have HS := hide hs
  have HZ := hide hz
  have HR := hide hr
  clear hv hs hz hr
  by_cases hk : 0 ≤ k ∧ k ≤ 50
  · obtain ⟨k, rfl⟩ : ∃ n : Nat, k = (n : Int) := ⟨k.toNat, by omega⟩
    have hk2 : k ≤ 50 := by omega
    by_cases hbad : 0 < z ∧ 0 ≤ s ∧ 0 ≤ r
    · obtain ⟨hz0, hs1, hr1⟩ := hbad
      have N1 : Hid (s + z ≠ 0) := by unfold Hid; grind
      have N2 : Hid (r + z ≠ 0) := by unfold Hid; grind
      obtain ⟨W, hW⟩ : ∃ x, x = v * z / (s + z) := ⟨_, rfl⟩
      obtain ⟨f, hF⟩ : ∃ x, x = W + W * ((r - z) / (r + z)) := ⟨_, rfl⟩
      obtain ⟨g, hG⟩ : ∃ x, x = (s - z) / (s + z) * ((r - z) / (r + z)) := ⟨_, rfl⟩
      have HB : Hid (∀ i, i ≤ 50 → FitW 42468112 (bo W f g i)) := fun i hi => fit_mono (bo_all_fit Fv.out Fs.out Fz.out Fr.out N1.out N2.out hW hF hG i hi) (by decide)
      have HW := hide hW
      have HF := hide hF
      have HG := hide hG
      clear hW hF hG hk
      go_enter Tryz.func6, Tryz.ntmps6
      go_wp2_with fail
      refine (echoes_at m w HM.out HT.out).mono ?_
      rintro e w1 ⟨rfl, g1⟩
      have G1 := hide g1
      clear g1
      go_wp2_with fail
      refine (bounce_ok sa sb sc sd v s z r k m 131074 w1 hk2 HV.out HS.out HZ.out HR.out (by omega) (by omega) (by omega) (by omega) Fv.out Fs.out Fz.out Fr.out (by decide) (gr_cell G1.out HM.out) 42468112 W f g HW.out HF.out HG.out hz0 hs1 hr1 HB.out (by decide) (HT.out.keep0 G1.out)).mono ?_
      rintro e w2 ⟨ao, cap, rfl, hrow, g2⟩
      have G2 := hide (gr_none G1.out g2)
      obtain ⟨hcap, hmax, bo1, off, rfl, hcl⟩ := row_cells hrow
      have ROW := hide hcl
      clear hrow hcl
      clear g2
      go_wp2_with fail
      refine (rOfV_at sb s m 131074 w2 HS.out (by omega) Fs.out (gr_cell G2.out HM.out)).mono ?_
      rintro e w3 ⟨bs, rfl, p3, g3⟩
      have P3 := hide p3
      have G3 := hide g3
      clear p3 g3
      go_wp2_with fail
      refine (rOfV_at sc z m 131074 w3 HZ.out (by omega) Fz.out (gr_cell (gr_none G2.out G3.out) HM.out)).mono ?_
      rintro e w4 ⟨bz, rfl, p4, g4⟩
      have P4 := hide p4
      have G4 := hide (gr_none G3.out g4)
      have P3b := hide (P3.out.keep0 g4)
      clear p4 g4 P3
      go_wp2_with fail
      refine (rOfV_at sd r m 131074 w4 HR.out (by omega) Fr.out (gr_cell (gr_none G2.out G4.out) HM.out)).mono ?_
      rintro e w5 ⟨br, rfl, p5, g5⟩
      have PR := hide p5
      have G5 := hide (gr_none G4.out g5)
      have PS := hide (P3b.out.keep0 g5)
      have PZ := hide (P4.out.keep0 g5)
      have GA := hide (gr_none G2.out G5.out)
      clear p5 g5 P3b P4
      have hkd : decide ((k : Int) < 0) = false := decide_eq_false (by omega)
      have hke : decide (50 < (k : Int)) = false := decide_eq_false (by omega)
      go_wp2_with fail
      refine (rSignV_at bs s _ w5 PS.out).mono ?_
      rintro e wq ⟨rfl, hwq⟩
      rw [hwq]
      clear hwq
      obtain ⟨sg1, hsg1⟩ : ∃ x, x = s.num.sign := ⟨_, rfl⟩
      rw [← hsg1]
      have hsd1 : decide (sg1 < 0) = false := by rw [hsg1]; exact decide_eq_false (fun e => Rat.not_lt.2 hs1 (sign_neg.1 e))
      have HSG1 := hide hsg1
      clear hsg1
      go_wp2_with fail
      refine (rSignV_at bz z _ w5 PZ.out).mono ?_
      rintro e wq ⟨rfl, hwq⟩
      rw [hwq]
      clear hwq
      obtain ⟨sg2, hsg2⟩ : ∃ x, x = z.num.sign := ⟨_, rfl⟩
      rw [← hsg2]
      have hsd2 : decide (sg2 ≤ 0) = false := by rw [hsg2]; exact decide_eq_false (by rw [sign_pos hz0]; decide)
      have HSG2 := hide hsg2
      clear hsg2
      go_wp2_with fail
      refine (rSignV_at br r _ w5 PR.out).mono ?_
      rintro e wq ⟨rfl, hwq⟩
      rw [hwq]
      clear hwq
      obtain ⟨sg3, hsg3⟩ : ∃ x, x = r.num.sign := ⟨_, rfl⟩
      rw [← hsg3]
      have hsd3 : decide (sg3 < 0) = false := by rw [hsg3]; exact decide_eq_false (fun e => Rat.not_lt.2 hr1 (sign_neg.1 e))
      have HSG3 := hide hsg3
      clear hsg3
      have hwk : IntKind.i64.wrap ((k : Int) + 1) = (k : Int) + 1 := IntWalk.i64_in _ ⟨by omega, by omega⟩
      go_wp2_with fail
      refine (rSubS_at bs bz s z 131074 131074 w5 (PS.out.x (by decide)) (PZ.out.x (by decide)) (by decide)).mono ?_
      rintro e wE ⟨bE, rfl, p, gg, _⟩
      have QE := hide (p.v.mono (show _ ≤ 262151 by decide))
      have GxE := hide (gr_none G5.out gg)
      replace PS := hide (PS.out.keep0 gg)
      replace PZ := hide (PZ.out.keep0 gg)
      replace PR := hide (PR.out.keep0 gg)
      clear p gg
      go_wp2_with fail
      refine (rAddS_at bs bz s z 131074 131074 wE (PS.out.x (by decide)) (PZ.out.x (by decide)) (by decide)).mono ?_
      rintro e wF ⟨bF, rfl, p, gg, _⟩
      have QF := hide (p.v.mono (show _ ≤ 262151 by decide))
      have GxF := hide (gr_none GxE.out gg)
      replace PS := hide (PS.out.keep0 gg)
      replace PZ := hide (PZ.out.keep0 gg)
      replace PR := hide (PR.out.keep0 gg)
      replace QE := hide (QE.out.keep0 gg)
      clear p gg
      go_wp2_with fail
      refine (rQuoSX_at bE bF (s - z) (s + z) 262151 262151 wF (QE.out.x (by decide)) (QF.out.x (by decide)) N1.out (by decide)).mono ?_
      rintro e wG ⟨bG, rfl, p, gg, _⟩
      have QG := hide (p.v.mono (show _ ≤ 524304 by decide))
      have GxG := hide (gr_none GxF.out gg)
      replace PS := hide (PS.out.keep0 gg)
      replace PZ := hide (PZ.out.keep0 gg)
      replace PR := hide (PR.out.keep0 gg)
      replace QE := hide (QE.out.keep0 gg)
      replace QF := hide (QF.out.keep0 gg)
      clear p gg
      go_wp2_with fail
      refine (rSubS_at br bz r z 131074 131074 wG (PR.out.x (by decide)) (PZ.out.x (by decide)) (by decide)).mono ?_
      rintro e wH ⟨bH, rfl, p, gg, _⟩
      have QH := hide (p.v.mono (show _ ≤ 262151 by decide))
      have GxH := hide (gr_none GxG.out gg)
      replace PS := hide (PS.out.keep0 gg)
      replace PZ := hide (PZ.out.keep0 gg)
      replace PR := hide (PR.out.keep0 gg)
      replace QE := hide (QE.out.keep0 gg)
      replace QF := hide (QF.out.keep0 gg)
      replace QG := hide (QG.out.keep0 gg)
      clear p gg
      go_wp2_with fail
      refine (rAddS_at br bz r z 131074 131074 wH (PR.out.x (by decide)) (PZ.out.x (by decide)) (by decide)).mono ?_
      rintro e wK ⟨bK, rfl, p, gg, _⟩
      have QK := hide (p.v.mono (show _ ≤ 262151 by decide))
      have GxK := hide (gr_none GxH.out gg)
      replace PS := hide (PS.out.keep0 gg)
      replace PZ := hide (PZ.out.keep0 gg)
      replace PR := hide (PR.out.keep0 gg)
      replace QE := hide (QE.out.keep0 gg)
      replace QF := hide (QF.out.keep0 gg)
      replace QG := hide (QG.out.keep0 gg)
      replace QH := hide (QH.out.keep0 gg)
      clear p gg
      go_wp2_with fail
      refine (rQuoSX_at bH bK (r - z) (r + z) 262151 262151 wK (QH.out.x (by decide)) (QK.out.x (by decide)) N2.out (by decide)).mono ?_
      rintro e wN ⟨bN, rfl, p, gg, _⟩
      have QN := hide (p.v.mono (show _ ≤ 524304 by decide))
      have GxN := hide (gr_none GxK.out gg)
      replace PS := hide (PS.out.keep0 gg)
      replace PZ := hide (PZ.out.keep0 gg)
      replace PR := hide (PR.out.keep0 gg)
      replace QE := hide (QE.out.keep0 gg)
      replace QF := hide (QF.out.keep0 gg)
      replace QG := hide (QG.out.keep0 gg)
      replace QH := hide (QH.out.keep0 gg)
      replace QK := hide (QK.out.keep0 gg)
      clear p gg
      go_wp2_with fail
      refine (rOfV_at sa v m 131074 wN HV.out (by omega) Fv.out (gr_cell (gr_none G2.out GxN.out) HM.out)).mono ?_
      rintro e wV ⟨bV, rfl, p, gg⟩
      have QV := hide (p.mono (show _ ≤ 131074 by decide))
      have GxV := hide (gr_none GxN.out gg)
      replace PS := hide (PS.out.keep0 gg)
      replace PZ := hide (PZ.out.keep0 gg)
      replace PR := hide (PR.out.keep0 gg)
      replace QE := hide (QE.out.keep0 gg)
      replace QF := hide (QF.out.keep0 gg)
      replace QG := hide (QG.out.keep0 gg)
      replace QH := hide (QH.out.keep0 gg)
      replace QK := hide (QK.out.keep0 gg)
      replace QN := hide (QN.out.keep0 gg)
      clear p gg
      go_wp2_with fail
      refine (rMulSX_at bV bz v z 131074 131074 wV (QV.out.x (by decide)) (PZ.out.x (by decide)) (by decide)).mono ?_
      rintro e wA ⟨bA, rfl, p, gg, _⟩
      have QA := hide (p.v.mono (show _ ≤ 262150 by decide))
      have GxA := hide (gr_none GxV.out gg)
      replace PS := hide (PS.out.keep0 gg)
      replace PZ := hide (PZ.out.keep0 gg)
      replace PR := hide (PR.out.keep0 gg)
      replace QE := hide (QE.out.keep0 gg)
      replace QF := hide (QF.out.keep0 gg)
      replace QG := hide (QG.out.keep0 gg)
      replace QH := hide (QH.out.keep0 gg)
      replace QK := hide (QK.out.keep0 gg)
      replace QN := hide (QN.out.keep0 gg)
      replace QV := hide (QV.out.keep0 gg)
      clear p gg
      go_wp2_with fail
      refine (rAddS_at bs bz s z 131074 131074 wA (PS.out.x (by decide)) (PZ.out.x (by decide)) (by decide)).mono ?_
      rintro e wC ⟨bC, rfl, p, gg, _⟩
      have QC := hide (p.v.mono (show _ ≤ 262151 by decide))
      have GxC := hide (gr_none GxA.out gg)
      replace PS := hide (PS.out.keep0 gg)
      replace PZ := hide (PZ.out.keep0 gg)
      replace PR := hide (PR.out.keep0 gg)
      replace QE := hide (QE.out.keep0 gg)
      replace QF := hide (QF.out.keep0 gg)
      replace QG := hide (QG.out.keep0 gg)
      replace QH := hide (QH.out.keep0 gg)
      replace QK := hide (QK.out.keep0 gg)
      replace QN := hide (QN.out.keep0 gg)
      replace QV := hide (QV.out.keep0 gg)
      replace QA := hide (QA.out.keep0 gg)
      clear p gg
      go_wp2_with fail
      refine (rQuoSX_at bA bC (v * z) (s + z) 262150 262151 wC (QA.out.x (by decide)) (QC.out.x (by decide)) N1.out (by decide)).mono ?_
      rintro e wD ⟨bD, rfl, p, gg, _⟩
      have QD := hide (p.v.mono (show _ ≤ 524303 by decide))
      have GxD := hide (gr_none GxC.out gg)
      replace PS := hide (PS.out.keep0 gg)
      replace PZ := hide (PZ.out.keep0 gg)
      replace PR := hide (PR.out.keep0 gg)
      replace QE := hide (QE.out.keep0 gg)
      replace QF := hide (QF.out.keep0 gg)
      replace QG := hide (QG.out.keep0 gg)
      replace QH := hide (QH.out.keep0 gg)
      replace QK := hide (QK.out.keep0 gg)
      replace QN := hide (QN.out.keep0 gg)
      replace QV := hide (QV.out.keep0 gg)
      replace QA := hide (QA.out.keep0 gg)
      replace QC := hide (QC.out.keep0 gg)
      clear p gg
      rw [← HW.out] at QD
      have GD := GxD
      obtain ⟨ga, hga⟩ : ∃ x, x = (s - z) / (s + z) := ⟨_, rfl⟩
      obtain ⟨gb, hgb⟩ : ∃ x, x = (r - z) / (r + z) := ⟨_, rfl⟩
      rw [← hga] at QG
      rw [← hgb] at QN
      rw [← hgb] at HF
      rw [← hga, ← hgb] at HG
      clear hga hgb
      have HWF : Hid (∀ i, i ≤ 50 → FitW 84936225 (wvB W ga gb i)) := fun i hi => fit_mono (wvB_fit HF.out HG.out HB.out i hi) (by decide)
      unfold maxLen at hmax
      obtain ⟨KN, hKN⟩ : ∃ x, x = k + 1 := ⟨_, rfl⟩
      rw [← hKN] at hcap ROW ⊢
      have HKN := hide hKN
      have hkn1 : KN ≤ 51 := by omega
      have hkn2 : KN ≤ k + 1 := by omega
      have hkn3 : k + 1 ≤ KN := by omega
      clear hKN
      have HST : Hid (WavR wD W ga gb KN (.slice (some ⟨wD.heap.size, 0, none⟩) 1 1) (.int .i64 1) (wD.alloc (Obj.cells #[.pointer (some ⟨bD, 0, none⟩)] 34))) := by
        refine ⟨1, [bD], Nat.le_refl _, by omega, rfl, rfl, ownPt_one (Nat.le_refl _), gr_alloc (gr_refl _ _) _, fun j hj => ?_⟩
        have : j = 0 := by simpa using hj
        subst this
        exact (QD.out.mono (by decide)).keep0 (gr_alloc (gr_refl _ _) _)
      clear hkd hke hwk
      go_wp2
      go_loopw [18, 19] (fun ov iv wr => Hid (WavR wD W ga gb KN ov iv wr)) (fun _ iv _ => KN - (intOf iv).toNat)
      case atStart => exact HST.out
      case round =>
        obtain ⟨n, bs, hn1, hn2, rfl, hbl, hown, hgr, hnum⟩ := hrel.out
        obtain ⟨pb, poff, pcap, rfl, hpc, hpm, hcell⟩ := ptr_cells hown hbl (by omega)
        unfold maxLen at hpm
        have HOWN := hide hown
        have HGR := hide hgr
        have HNUM := hide hnum
        have HBL := hide hbl
        have HCELL := hide hcell
        have HGX := hide hgr
        clear hrel hown hgr hnum hbl hcell HST
        by_cases hlt : n < KN
        · have hnk : n ≤ k := by omega
          have hdn : decide (n ≤ k) = true := decide_eq_true (by omega)
          obtain ⟨j, hj⟩ : ∃ j, n = j + 1 := ⟨n - 1, by omega⟩
          have HJ := hide hj
          have hj1 : j < n := by omega
          clear hj
          have hjb : j < bs.length := by have := HBL.out; omega
          have hwj : IntKind.i64.wrap ((n : Int) - 1) = (j : Int) := by have := HJ.out; rw [IntWalk.i64_in _ ⟨by omega, by omega⟩]; omega
          have NJ0 := HNUM.out j hjb
          have cj := HCELL.out j hjb
          obtain ⟨bj, hbj⟩ : ∃ x, x = bs[j] := ⟨_, rfl⟩
          rw [← hbj] at NJ0 cj
          have NJ := hide NJ0
          clear NJ0 hbj
          have hi0 : (0 : Int) ≤ (j : Int) := by omega
          have hi1 : (j : Int) < (n : Int) := by omega
          by_cases he : n % 2 = 0
          · have ea : ((n : Int)).tmod 2 = 0 := by rw [Int.tmod_eq_emod_of_nonneg (by omega)]; omega
            have hnv : Hid (wvB W ga gb (j + 1) = wvB W ga gb j * ga) := by
              show wvB W ga gb j * (if (j + 1) % 2 = 0 then ga else gb) = _
              rw [if_pos (by have := HJ.out; omega)]
            go_wp2_with fail
            refine (rMulSX_at bj bG (wvB W ga gb j) ga 84936225 524304 wr (NJ.out.x (by decide)) ((QG.out.keep0 HGX.out).x (by decide)) (by decide)).mono ?_
            rintro e wq ⟨bq, rfl, pq, gq, _⟩
            rw [← hnv.out] at pq
            have PQ := hide ((pq.v).tight (HWF.out (j + 1) (by have := HJ.out; omega)))
            have GQ := hide gq
            clear pq gq
            have hsz : wD.heap.size ≤ wq.heap.size := Nat.le_trans HGR.out.size GQ.out.size
            have HOQ := hide (HOWN.out.keep0 (gr_alloc GQ.out (Obj.cells #[.pointer (some ⟨bq, 0, none⟩)] 34)))
            go_wp2_with (at_builtin; refine wpList_append_pt _ rfl _ _ 27 rfl wD.heap.size Tryz.underlying27 Tryz.infoPR _ bs rfl HOQ.out wq.heap.size bq rfl (show _ = some (Value.pointer (some ⟨bq, 0, none⟩)) by go_simp) (by have := HBL.out; omega) (by simp; omega) ?_)
            intro ao2 cap2 w9 o9 g9 k9
            have O9 := hide o9
            have K9 := hide k9
            have hle9 : ∀ q, (Value.slice (some ⟨pb, poff, none⟩) n pcap).ownBlock = some q → wD.heap.size ≤ q := fun q e => (HOQ.out.1.fresh q e).1
            have G9 : Hid (wD.grownBy w9 none) := gr_trans (r := none) (gr_none HGR.out (gr_alloc GQ.out _)) g9 (fun _ _ e => e) (fun q hq e => by have := hle9 q e.symm; omega)
            have N9 : Hid (∀ x (h : x < (bs ++ [bq]).length), RV w9 (bs ++ [bq])[x] (wvB W ga gb x) 84936225) := by
              intro x hx
              have hpos : 0 < bs.length := by have := HBL.out; omega
              by_cases hxl : x < bs.length
              · rw [List.getElem_append_left hxl]
                have h1 := (HNUM.out x hxl).keep0 (gr_alloc GQ.out (Obj.cells #[.pointer (some ⟨bq, 0, none⟩)] 34))
                exact h1.keptO g9 K9.out (HOQ.out.apart hpos h1)
              · have hxe : x = j + 1 := by have := HJ.out; have := HBL.out; simp at hx; omega
                have hge : bs.length ≤ x := by omega
                rw [List.getElem_append_right hge]
                have e0 : x - bs.length = 0 := by have := HJ.out; have := HBL.out; omega
                simp only [e0, List.getElem_cons_zero]
                rw [hxe]
                have h1 := PQ.out.keep0 (gr_alloc (gr_refl _ none) (Obj.cells #[.pointer (some ⟨bq, 0, none⟩)] 34))
                exact h1.keptO g9 K9.out (HOQ.out.apart hpos h1)
            clear o9 g9 k9 hle9
            rw [HBL.out]
            go_wp2
            go_roundw
            case rel => exact ⟨n + 1, bs ++ [bq], by omega, by omega, by go_num, by simp [HBL.out], (HBL.out ▸ O9.out), G9.out, N9.out⟩
            case measure => simp [intOf]; omega
          · have ea : ((n : Int)).tmod 2 = 1 := by rw [Int.tmod_eq_emod_of_nonneg (by omega)]; omega
            have hnv : Hid (wvB W ga gb (j + 1) = wvB W ga gb j * gb) := by
              show wvB W ga gb j * (if (j + 1) % 2 = 0 then ga else gb) = _
              rw [if_neg (by have := HJ.out; omega)]
            go_wp2_with fail
            refine (rMulSX_at bj bN (wvB W ga gb j) gb 84936225 524304 wr (NJ.out.x (by decide)) ((QN.out.keep0 HGX.out).x (by decide)) (by decide)).mono ?_
            rintro e wq ⟨bq, rfl, pq, gq, _⟩
            rw [← hnv.out] at pq
            have PQ := hide ((pq.v).tight (HWF.out (j + 1) (by have := HJ.out; omega)))
            have GQ := hide gq
            clear pq gq
            have hsz : wD.heap.size ≤ wq.heap.size := Nat.le_trans HGR.out.size GQ.out.size
            have HOQ := hide (HOWN.out.keep0 (gr_alloc GQ.out (Obj.cells #[.pointer (some ⟨bq, 0, none⟩)] 34)))
            go_wp2_with (at_builtin; refine wpList_append_pt _ rfl _ _ 27 rfl wD.heap.size Tryz.underlying27 Tryz.infoPR _ bs rfl HOQ.out wq.heap.size bq rfl (show _ = some (Value.pointer (some ⟨bq, 0, none⟩)) by go_simp) (by have := HBL.out; omega) (by simp; omega) ?_)
            intro ao2 cap2 w9 o9 g9 k9
            have O9 := hide o9
            have K9 := hide k9
            have hle9 : ∀ q, (Value.slice (some ⟨pb, poff, none⟩) n pcap).ownBlock = some q → wD.heap.size ≤ q := fun q e => (HOQ.out.1.fresh q e).1
            have G9 : Hid (wD.grownBy w9 none) := gr_trans (r := none) (gr_none HGR.out (gr_alloc GQ.out _)) g9 (fun _ _ e => e) (fun q hq e => by have := hle9 q e.symm; omega)
            have N9 : Hid (∀ x (h : x < (bs ++ [bq]).length), RV w9 (bs ++ [bq])[x] (wvB W ga gb x) 84936225) := by
              intro x hx
              have hpos : 0 < bs.length := by have := HBL.out; omega
              by_cases hxl : x < bs.length
              · rw [List.getElem_append_left hxl]
                have h1 := (HNUM.out x hxl).keep0 (gr_alloc GQ.out (Obj.cells #[.pointer (some ⟨bq, 0, none⟩)] 34))
                exact h1.keptO g9 K9.out (HOQ.out.apart hpos h1)
              · have hxe : x = j + 1 := by have := HJ.out; have := HBL.out; simp at hx; omega
                have hge : bs.length ≤ x := by omega
                rw [List.getElem_append_right hge]
                have e0 : x - bs.length = 0 := by have := HJ.out; have := HBL.out; omega
                simp only [e0, List.getElem_cons_zero]
                rw [hxe]
                have h1 := PQ.out.keep0 (gr_alloc (gr_refl _ none) (Obj.cells #[.pointer (some ⟨bq, 0, none⟩)] 34))
                exact h1.keptO g9 K9.out (HOQ.out.apart hpos h1)
            clear o9 g9 k9 hle9
            rw [HBL.out]
            go_wp2
            go_roundw
            case rel => exact ⟨n + 1, bs ++ [bq], by omega, by omega, by go_num, by simp [HBL.out], (HBL.out ▸ O9.out), G9.out, N9.out⟩
            case measure => simp [intOf]; omega
        · have hnk : k < n := by omega
          have hdn : decide (n ≤ k) = false := decide_eq_false (by omega)
          have hcb : ∀ x (h : x < bs.length), wr.cell? ⟨pb, poff + x, none⟩ = some (.pointer (some ⟨bs[x], 0, none⟩)) := HCELL.out
          have hnl : KN ≤ n := by omega
          obtain ⟨wM, hwm⟩ : ∃ x, x = wr := ⟨_, rfl⟩
          obtain rfl := hwm
          clear hcb
          go_wp2
          go_loopw [129] (fun iv wr => Hid (OutR wM KN iv wr)) (fun iv _ => KN - (intOf iv).toNat)
          case atStart => exact ⟨0, Nat.zero_le _, rfl, gr_refl _ _⟩
          case round =>
            obtain ⟨i, hi, rfl, hgo⟩ := hrel.out
            have HGO := hide hgo
            clear hrel hgo
            obtain ⟨wO, hwo⟩ : ∃ x, x = wr := ⟨_, rfl⟩
            obtain rfl := hwo
            by_cases hil : i < KN
            · have hdi : decide (i < KN) = true := decide_eq_true (by omega)
              have cl := gr_cell (gr_none (gr_none GD.out HGX.out) HGO.out) (ROW.out i hil)
              obtain ⟨tL, htL⟩ : ∃ b : ByteArray, b = ⟨(qtext (bo W f g i)).toArray⟩ := ⟨_, rfl⟩
              rw [← htL] at cl
              have HTL := hide htL
              clear htL
              have hi0 : (0 : Int) ≤ (i : Int) := by omega
              have hi1 : (i : Int) < (KN : Int) := by omega
              obtain ⟨bS, hbS⟩ : ∃ x, x = wO.heap.size := ⟨_, rfl⟩
              obtain ⟨WS, hWS⟩ : ∃ x, x = wO.alloc (Obj.cells #[.bool false, .slice none 0 0, .bool false, .slice none 0 0] 69) := ⟨_, rfl⟩
              have HS0 : Hid (SumR wO bS W ga gb i (.int .i64 0) WS) := by
                refine ⟨0, Nat.zero_le _, rfl, by rw [hWS]; exact gr_alloc (gr_refl _ _) _, .inr ⟨rfl, ?_⟩⟩
                have hnr : NewR WS bS := by rw [hWS, hbS]; exact heap_alloc_new wO _
                exact (hnr.nil _).1
              have HBS := hide (Nat.le_of_eq hbS.symm)
              go_upto_region 24 with fail
              rw [← hWS, ← hbS]
              clear hWS hbS cl
              go_wp2
              go_loopw [24] (fun jv wr => Hid (SumR wO bS W ga gb i jv wr)) (fun jv _ => i + 1 - (intOf jv).toNat)
              case atStart => exact HS0.out
              case round =>
                obtain ⟨j, hj, rfl, hgj, hsum⟩ := hrel.out
                have HGJ := hide hgj
                have HSUM := hide hsum
                clear hrel hgj hsum HS0
                by_cases hjl : j ≤ i
                · have hdj : decide (j ≤ i) = true := decide_eq_true (by omega)
                  have hjb : j < bs.length := by have := HBL.out; omega
                  have NJ0 := (HNUM.out j hjb).keep0 (gr_none HGO.out HGJ.out)
                  have cj := gr_cell (gr_none HGO.out HGJ.out) (HCELL.out j hjb)
                  obtain ⟨bj, hbj⟩ : ∃ x, x = bs[j] := ⟨_, rfl⟩
                  rw [← hbj] at NJ0 cj
                  have NJ := hide NJ0
                  clear NJ0 hbj hjb
                  have hi2 : (0 : Int) ≤ (j : Int) := by omega
                  have hi3 : (j : Int) < (n : Int) := by omega
                  go_wp2_with fail
                  refine (addTo_at bS bj (ptB W ga gb j) (wvB W ga gb j) 42468112 84936225 wr HSUM.out (NJ.out.x (by decide)) (by decide) (by decide)).mono ?_
                  rintro e w7 ⟨rfl, hput, hq⟩
                  rw [← ptB_succ] at hq
                  have HQ7 := hide (hq.v.tight (show FitW 42468112 (ptB W ga gb (j + 1)) by (show FitW 42468112 (smB W ga gb j); rw [(smB_bo W ga gb f g HF.out HG.out j).1]; exact HB.out j (by omega))))
                  have G7 := hide (gr_rput HGJ.out hput HBS.out)
                  clear hput hq
                  go_wp2
                  go_roundw
                  case rel => exact ⟨j + 1, by omega, by go_num, G7.out, HQ7.out⟩
                  case measure => simp [intOf]; omega
                · have hji : i < j := by omega
                  have hdj : decide (j ≤ i) = false := decide_eq_false (by omega)
                  have hje : j = i + 1 := by omega
                  have HPT : Hid (ptB W ga gb j = bo W f g i) := by unfold Hid; rw [hje]; exact (smB_bo W ga gb f g HF.out HG.out i).1
                  clear hje
                  go_wp2_with fail
                  refine (rTV_at bS (ptB W ga gb j) 42468112 wr HSUM.out (by decide)).mono ?_
                  rintro e w8 ⟨rfl, g8⟩
                  rw [HPT.out, ← HTL.out]
                  have G8 := hide (gr_none (gr_none HGO.out HGJ.out) g8)
                  clear g8
                  go_wp2
                  go_roundw
                  case rel => exact ⟨i + 1, by omega, by go_num, G8.out⟩
                  case measure => simp [intOf]; omega
            · have hil2 : KN ≤ i := by omega
              have hdi : decide (i < KN) = false := decide_eq_false (by omega)
              go_wp2
              go_ret
              exact ⟨rfl, gr_none (gr_none (gr_none G2.out GD.out) HGX.out) HGO.out⟩
    · by_cases hs0 : s < 0
      · go_enter Tryz.func6, Tryz.ntmps6
        go_wp2_with fail
        refine (echoes_at m w HM.out HT.out).mono ?_
        rintro e w1 ⟨rfl, g1⟩
        have G1 := hide g1
        clear g1
        go_wp2_with fail
        refine (bounce_bad sa sb sc sd v s z r k m 131074 w1 hk2 HV.out HS.out HZ.out HR.out (by omega) (by omega) (by omega) (by omega) Fv.out Fs.out Fz.out Fr.out (by decide) (gr_cell G1.out HM.out) hbad).mono ?_
        rintro e w2 ⟨rfl, g2⟩
        have G2 := hide (gr_none G1.out g2)
        clear g2
        go_wp2_with fail
        refine (rOfV_at sb s m 131074 w2 HS.out (by omega) Fs.out (gr_cell G2.out HM.out)).mono ?_
        rintro e w3 ⟨bs, rfl, p3, g3⟩
        have P3 := hide p3
        have G3 := hide g3
        clear p3 g3
        go_wp2_with fail
        refine (rOfV_at sc z m 131074 w3 HZ.out (by omega) Fz.out (gr_cell (gr_none G2.out G3.out) HM.out)).mono ?_
        rintro e w4 ⟨bz, rfl, p4, g4⟩
        have P4 := hide p4
        have G4 := hide (gr_none G3.out g4)
        have P3b := hide (P3.out.keep0 g4)
        clear p4 g4 P3
        go_wp2_with fail
        refine (rOfV_at sd r m 131074 w4 HR.out (by omega) Fr.out (gr_cell (gr_none G2.out G4.out) HM.out)).mono ?_
        rintro e w5 ⟨br, rfl, p5, g5⟩
        have PR := hide p5
        have G5 := hide (gr_none G4.out g5)
        have PS := hide (P3b.out.keep0 g5)
        have PZ := hide (P4.out.keep0 g5)
        have GA := hide (gr_none G2.out G5.out)
        clear p5 g5 P3b P4
        have hkd : decide ((k : Int) < 0) = false := decide_eq_false (by omega)
        have hke : decide (50 < (k : Int)) = false := decide_eq_false (by omega)
        go_wp2_with fail
        refine (rSignV_at bs s _ w5 PS.out).mono ?_
        rintro e wq ⟨rfl, hwq⟩
        rw [hwq]
        clear hwq
        obtain ⟨sg1, hsg1⟩ : ∃ x, x = s.num.sign := ⟨_, rfl⟩
        rw [← hsg1]
        have hsd1 : decide (sg1 < 0) = true := by rw [hsg1]; exact decide_eq_true (sign_neg.2 hs0)
        have HSG1 := hide hsg1
        clear hsg1
        go_wp2
        go_ret
        exact ⟨rfl, GA.out⟩
      · by_cases hz0 : 0 < z
        · have hr0 : r < 0 := by
            rcases Rat.le_total (a := 0) (b := r) with h | h
            · exact absurd ⟨hz0, Rat.not_lt.1 hs0, h⟩ hbad
            · rcases (Rat.le_iff_lt_or_eq (a := r) (b := 0)).1 h with h | h
              · exact h
              · exact absurd ⟨hz0, Rat.not_lt.1 hs0, by rw [h]; exact Rat.le_refl⟩ hbad
          go_enter Tryz.func6, Tryz.ntmps6
          go_wp2_with fail
          refine (echoes_at m w HM.out HT.out).mono ?_
          rintro e w1 ⟨rfl, g1⟩
          have G1 := hide g1
          clear g1
          go_wp2_with fail
          refine (bounce_bad sa sb sc sd v s z r k m 131074 w1 hk2 HV.out HS.out HZ.out HR.out (by omega) (by omega) (by omega) (by omega) Fv.out Fs.out Fz.out Fr.out (by decide) (gr_cell G1.out HM.out) hbad).mono ?_
          rintro e w2 ⟨rfl, g2⟩
          have G2 := hide (gr_none G1.out g2)
          clear g2
          go_wp2_with fail
          refine (rOfV_at sb s m 131074 w2 HS.out (by omega) Fs.out (gr_cell G2.out HM.out)).mono ?_
          rintro e w3 ⟨bs, rfl, p3, g3⟩
          have P3 := hide p3
          have G3 := hide g3
          clear p3 g3
          go_wp2_with fail
          refine (rOfV_at sc z m 131074 w3 HZ.out (by omega) Fz.out (gr_cell (gr_none G2.out G3.out) HM.out)).mono ?_
          rintro e w4 ⟨bz, rfl, p4, g4⟩
          have P4 := hide p4
          have G4 := hide (gr_none G3.out g4)
          have P3b := hide (P3.out.keep0 g4)
          clear p4 g4 P3
          go_wp2_with fail
          refine (rOfV_at sd r m 131074 w4 HR.out (by omega) Fr.out (gr_cell (gr_none G2.out G4.out) HM.out)).mono ?_
          rintro e w5 ⟨br, rfl, p5, g5⟩
          have PR := hide p5
          have G5 := hide (gr_none G4.out g5)
          have PS := hide (P3b.out.keep0 g5)
          have PZ := hide (P4.out.keep0 g5)
          have GA := hide (gr_none G2.out G5.out)
          clear p5 g5 P3b P4
          have hkd : decide ((k : Int) < 0) = false := decide_eq_false (by omega)
          have hke : decide (50 < (k : Int)) = false := decide_eq_false (by omega)
          go_wp2_with fail
          refine (rSignV_at bs s _ w5 PS.out).mono ?_
          rintro e wq ⟨rfl, hwq⟩
          rw [hwq]
          clear hwq
          obtain ⟨sg1, hsg1⟩ : ∃ x, x = s.num.sign := ⟨_, rfl⟩
          rw [← hsg1]
          have hsd1 : decide (sg1 < 0) = false := by rw [hsg1]; exact decide_eq_false (fun e => hs0 (sign_neg.1 e))
          have HSG1 := hide hsg1
          clear hsg1
          go_wp2_with fail
          refine (rSignV_at bz z _ w5 PZ.out).mono ?_
          rintro e wq ⟨rfl, hwq⟩
          rw [hwq]
          clear hwq
          obtain ⟨sg2, hsg2⟩ : ∃ x, x = z.num.sign := ⟨_, rfl⟩
          rw [← hsg2]
          have hsd2 : decide (sg2 ≤ 0) = false := by rw [hsg2]; exact decide_eq_false (by rw [sign_pos hz0]; decide)
          have HSG2 := hide hsg2
          clear hsg2
          go_wp2_with fail
          refine (rSignV_at br r _ w5 PR.out).mono ?_
          rintro e wq ⟨rfl, hwq⟩
          rw [hwq]
          clear hwq
          obtain ⟨sg3, hsg3⟩ : ∃ x, x = r.num.sign := ⟨_, rfl⟩
          rw [← hsg3]
          have hsd3 : decide (sg3 < 0) = true := by rw [hsg3]; exact decide_eq_true (sign_neg.2 hr0)
          have HSG3 := hide hsg3
          clear hsg3
          go_wp2
          go_ret
          exact ⟨rfl, GA.out⟩
        · go_enter Tryz.func6, Tryz.ntmps6
          go_wp2_with fail
          refine (echoes_at m w HM.out HT.out).mono ?_
          rintro e w1 ⟨rfl, g1⟩
          have G1 := hide g1
          clear g1
          go_wp2_with fail
          refine (bounce_bad sa sb sc sd v s z r k m 131074 w1 hk2 HV.out HS.out HZ.out HR.out (by omega) (by omega) (by omega) (by omega) Fv.out Fs.out Fz.out Fr.out (by decide) (gr_cell G1.out HM.out) hbad).mono ?_
          rintro e w2 ⟨rfl, g2⟩
          have G2 := hide (gr_none G1.out g2)
          clear g2
          go_wp2_with fail
          refine (rOfV_at sb s m 131074 w2 HS.out (by omega) Fs.out (gr_cell G2.out HM.out)).mono ?_
          rintro e w3 ⟨bs, rfl, p3, g3⟩
          have P3 := hide p3
          have G3 := hide g3
          clear p3 g3
          go_wp2_with fail
          refine (rOfV_at sc z m 131074 w3 HZ.out (by omega) Fz.out (gr_cell (gr_none G2.out G3.out) HM.out)).mono ?_
          rintro e w4 ⟨bz, rfl, p4, g4⟩
          have P4 := hide p4
          have G4 := hide (gr_none G3.out g4)
          have P3b := hide (P3.out.keep0 g4)
          clear p4 g4 P3
          go_wp2_with fail
          refine (rOfV_at sd r m 131074 w4 HR.out (by omega) Fr.out (gr_cell (gr_none G2.out G4.out) HM.out)).mono ?_
          rintro e w5 ⟨br, rfl, p5, g5⟩
          have PR := hide p5
          have G5 := hide (gr_none G4.out g5)
          have PS := hide (P3b.out.keep0 g5)
          have PZ := hide (P4.out.keep0 g5)
          have GA := hide (gr_none G2.out G5.out)
          clear p5 g5 P3b P4
          have hkd : decide ((k : Int) < 0) = false := decide_eq_false (by omega)
          have hke : decide (50 < (k : Int)) = false := decide_eq_false (by omega)
          go_wp2_with fail
          refine (rSignV_at bs s _ w5 PS.out).mono ?_
          rintro e wq ⟨rfl, hwq⟩
          rw [hwq]
          clear hwq
          obtain ⟨sg1, hsg1⟩ : ∃ x, x = s.num.sign := ⟨_, rfl⟩
          rw [← hsg1]
          have hsd1 : decide (sg1 < 0) = false := by rw [hsg1]; exact decide_eq_false (fun e => hs0 (sign_neg.1 e))
          have HSG1 := hide hsg1
          clear hsg1
          go_wp2_with fail
          refine (rSignV_at bz z _ w5 PZ.out).mono ?_
          rintro e wq ⟨rfl, hwq⟩
          rw [hwq]
          clear hwq
          obtain ⟨sg2, hsg2⟩ : ∃ x, x = z.num.sign := ⟨_, rfl⟩
          rw [← hsg2]
          have hsd2 : decide (sg2 ≤ 0) = true := by rw [hsg2]; exact decide_eq_true (sign_le hz0)
          have HSG2 := hide hsg2
          clear hsg2
          go_wp2
          go_ret
          exact ⟨rfl, GA.out⟩
  · by_cases hk0 : k < 0
    · go_enter Tryz.func6, Tryz.ntmps6
      go_wp2_with fail
      refine (echoes_at m w HM.out HT.out).mono ?_
      rintro e w1 ⟨rfl, g1⟩
      have G1 := hide g1
      clear g1
      go_wp2_with fail
      refine (bounce_many sa sb sc sd k w1 hk).mono ?_
      rintro e w2 ⟨rfl, g2⟩
      have G2 := hide (gr_none G1.out g2)
      clear g2
      go_wp2_with fail
      refine (rOfV_at sb s m 131074 w2 HS.out (by omega) Fs.out (gr_cell G2.out HM.out)).mono ?_
      rintro e w3 ⟨bs, rfl, p3, g3⟩
      have P3 := hide p3
      have G3 := hide g3
      clear p3 g3
      go_wp2_with fail
      refine (rOfV_at sc z m 131074 w3 HZ.out (by omega) Fz.out (gr_cell (gr_none G2.out G3.out) HM.out)).mono ?_
      rintro e w4 ⟨bz, rfl, p4, g4⟩
      have P4 := hide p4
      have G4 := hide (gr_none G3.out g4)
      have P3b := hide (P3.out.keep0 g4)
      clear p4 g4 P3
      go_wp2_with fail
      refine (rOfV_at sd r m 131074 w4 HR.out (by omega) Fr.out (gr_cell (gr_none G2.out G4.out) HM.out)).mono ?_
      rintro e w5 ⟨br, rfl, p5, g5⟩
      have PR := hide p5
      have G5 := hide (gr_none G4.out g5)
      have PS := hide (P3b.out.keep0 g5)
      have PZ := hide (P4.out.keep0 g5)
      have GA := hide (gr_none G2.out G5.out)
      clear p5 g5 P3b P4
      have hkd : decide (k < 0) = true := decide_eq_true hk0
      go_wp2
      go_ret
      exact ⟨rfl, GA.out⟩
    · go_enter Tryz.func6, Tryz.ntmps6
      go_wp2_with fail
      refine (echoes_at m w HM.out HT.out).mono ?_
      rintro e w1 ⟨rfl, g1⟩
      have G1 := hide g1
      clear g1
      go_wp2_with fail
      refine (bounce_many sa sb sc sd k w1 hk).mono ?_
      rintro e w2 ⟨rfl, g2⟩
      have G2 := hide (gr_none G1.out g2)
      clear g2
      go_wp2_with fail
      refine (rOfV_at sb s m 131074 w2 HS.out (by omega) Fs.out (gr_cell G2.out HM.out)).mono ?_
      rintro e w3 ⟨bs, rfl, p3, g3⟩
      have P3 := hide p3
      have G3 := hide g3
      clear p3 g3
      go_wp2_with fail
      refine (rOfV_at sc z m 131074 w3 HZ.out (by omega) Fz.out (gr_cell (gr_none G2.out G3.out) HM.out)).mono ?_
      rintro e w4 ⟨bz, rfl, p4, g4⟩
      have P4 := hide p4
      have G4 := hide (gr_none G3.out g4)
      have P3b := hide (P3.out.keep0 g4)
      clear p4 g4 P3
      go_wp2_with fail
      refine (rOfV_at sd r m 131074 w4 HR.out (by omega) Fr.out (gr_cell (gr_none G2.out G4.out) HM.out)).mono ?_
      rintro e w5 ⟨br, rfl, p5, g5⟩
      have PR := hide p5
      have G5 := hide (gr_none G4.out g5)
      have PS := hide (P3b.out.keep0 g5)
      have PZ := hide (P4.out.keep0 g5)
      have GA := hide (gr_none G2.out G5.out)
      clear p5 g5 P3b P4
      have hkd : decide (k < 0) = false := decide_eq_false (by omega)
      have hke : decide (50 < k) = true := decide_eq_true (by omega)
      go_wp2
      go_ret
      exact ⟨rfl, GA.out⟩
end Go.Proofs.YtdpagdlmpajjkafGreatDoor
