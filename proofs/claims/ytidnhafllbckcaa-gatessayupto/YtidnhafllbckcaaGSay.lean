/- voltaiclaw: GatesSay. -/
import Derived.Test.YtidnhafllbckcaaGSayM
namespace Go.Proofs.Ytidnhafllbckcaa
open Go.RowKit
set_option linter.unusedVariables false
set_option linter.unusedSimpArgs false

def BadR (w : World) (xs : List Int) (b0 : Int) (bv iv : Value) (wr : World) : Prop := ∃ i : Nat, i ≤ xs.length ∧ iv = .int .i64 (i : Nat) ∧ bv = .int .i64 (badN xs b0 i) ∧ w.grownBy wr none

def SayT (w : World) (n : Nat) (t : Ex n) (k : Nat) (ov iv : Value) (wr : World) : Prop := ∃ r : Nat, r ≤ 2 ^ k ∧ iv = .int .i64 (r : Nat) ∧ ov = .int .u64 (tabN (rowF n t k) r : Nat) ∧ w.grownBy wr none
def SayI (w : World) (base : Nat) (n : Nat) (t : Ex n) (k : Nat) (ov iv : Value) (wr : World) : Prop := ∃ r : Nat, r ≤ 2 ^ k ∧ iv = .int .i64 (r : Nat) ∧ PrO wr base ov (risksL n t k r) ∧ w.grownBy wr none
def SayJ (w : World) (base : Nat) (n : Nat) (t : Ex n) (k r : Nat) (ov iv : Value) (wr : World) : Prop := ∃ j : Nat, j ≤ k ∧ iv = .int .i64 (j : Nat) ∧ PrO wr base ov (risksL n t k r ++ riskRow n t k r j) ∧ w.grownBy wr none

set_option maxHeartbeats 32000000 in
set_option maxRecDepth 10000 in
theorem say_at (n : Nat) (t : Ex n) (c0 c1 c2 c3 xv : Value) (xs : List Int) (k : Int) (w : World) (hw : WayC w n c0 c1 c2 c3 t) (hx : IntR w xv xs) (hsz : szE n t ≤ 1048576) :
    Calls Try.prog 3 #[.agg #[c0, c1, c2, c3], xv, .int .i64 k] w fun e w' => e = .returned (.bool true) ∧ w.grownBy w' none := by
  have HW := hide hw
  have HX := hide hx
  obtain ⟨kd, i, b, ao, len, cap, rfl, rfl, rfl, rfl⟩ := hw.cells
  obtain ⟨xo, xc, rfl, hx1, hx2, hx3⟩ := hx
  have HX3 := hide hx3
  unfold maxLen at hx2
  clear hw hx3
  have gA : Hid (w.grownBy (w.alloc (Obj.cells #[.int .i64 kd, .int .i64 i, .bool b, .slice ao len cap] 24)) none) := gr_alloc (gr_refl _ _) _
  obtain ⟨ce, hce⟩ : ∃ ce, ce = checkE n t k := ⟨_, rfl⟩
  have HCE := hide hce
  go_enter Try.func3, Try.ntmps3
  go_wp2_with fail
  refine (closes_at _).mono ?_
  rintro e w1 ⟨rfl, g1⟩
  have B1 := hide (boxKept g1)
  have G1 := hide (gr_none gA.out g1)
  obtain ⟨p0, p1, p2, p3⟩ := B1.out.c4
  clear g1 gA
  go_wp2_with fail
  refine (rCheck_at k n t _ _ _ _ _ (HW.out.keep G1.out) hsz).mono ?_
  rintro e w2 ⟨rfl, g2⟩
  rw [← hce]
  have B2 := hide (B1.out.keep0 g2)
  have G2 := hide (gr_none G1.out g2)
  clear p0 p1 p2 p3 g2 B1 G1
  obtain ⟨p0, p1, p2, p3⟩ := B2.out.c4
  go_wp2_with fail
  refine (table_at n t _ _ _ _ k _ (HW.out.keep G2.out)).mono ?_
  rintro e w3 ⟨rfl, g3⟩
  rw [table_code n t k, ← hce]
  obtain ⟨tb, htb⟩ : ∃ tb, tb = (tableE n t k).1 := ⟨_, rfl⟩
  rw [← htb]
  have HTB := hide htb
  have B3 := hide (B2.out.keep0 g3)
  have G3 := hide (gr_none G2.out g3)
  clear p0 p1 p2 p3 g3 B2 G2 htb
  obtain ⟨p0, p1, p2, p3⟩ := B3.out.c4
  go_wp2_with fail
  refine (dualOf_at n t _ _ _ _ k _ (HW.out.keep G3.out)).mono ?_
  intro e w4 hD
  obtain ⟨ak, ai, ab, aao, alen, acap, rfl, g4, hd1, hd2⟩ := dual_uni hD
  rw [← hce] at hd1 hd2 ⊢
  have HD1 := hide hd1
  have HD2 := hide hd2
  have B4 := hide (B3.out.keep0 g4)
  have G4 := hide (gr_none G3.out g4)
  clear p0 p1 p2 p3 g4 B3 G3 hD hd1 hd2
  have BD4 := hide (boxNew w4 #[.int .i64 ak, .int .i64 ai, .bool ab, .slice aao alen acap] 24)
  have gD := hide (gr_alloc (gr_refl w4 none) (Obj.cells #[.int .i64 ak, .int .i64 ai, .bool ab, .slice aao alen acap] 24))
  have hb4 := B4.out.lt
  obtain ⟨p0, p1, p2, p3⟩ := B4.out.c4
  go_wp2_with fail
  generalize w4.alloc (Obj.cells #[.int .i64 ak, .int .i64 ai, .bool ab, .slice aao alen acap] 24) = W5 at *
  have G5 := hide (gr_none G4.out gD.out)
  have B5 := hide (B4.out.keep0 gD.out)
  have HD5 : Hid (ce = 0 → WayC W5 n (.int .i64 ak) (.int .i64 ai) (.bool ab) (.slice aao alen acap) (dualE n t)) := fun h => (HD2.out h).keep gD.out
  obtain ⟨bd, hbd⟩ : ∃ bd, bd = w4.heap.size := ⟨_, rfl⟩
  rw [← hbd] at BD4 ⊢
  clear hbd gD HD2 B4 G4 p0 p1 p2 p3 hb4
  refine (risks_at n t _ _ _ _ k _ (HW.out.keep G5.out)).mono ?_
  intro e w6 hRk
  obtain ⟨ro, rl, rc, rfl, g6, hr1, hr2⟩ := risk_uni hRk
  rw [← hce] at hr1 hr2 ⊢
  have HR1 := hide hr1
  have HR2 := hide hr2
  have B6 := hide (B5.out.keep0 g6)
  have D6 := hide (BD4.out.keep0 g6)
  have G6 := hide (gr_none G5.out g6)
  have HD6 : Hid (ce = 0 → WayC w6 n (.int .i64 ak) (.int .i64 ai) (.bool ab) (.slice aao alen acap) (dualE n t)) := fun h => (HD5.out h).keep g6
  clear g6 hRk hr1 hr2 B5 G5 HD5 BD4
  obtain ⟨p0, p1, p2, p3⟩ := B6.out.c4
  go_wp2_with fail
  refine (check_at k n t _ _ _ _ _ (HW.out.keep G6.out)).mono ?_
  rintro e w7 ⟨rfl, g7⟩
  rw [← hce]
  have B7 := hide (B6.out.keep0 g7)
  have D7 := hide (D6.out.keep0 g7)
  have G7 := hide (gr_none G6.out g7)
  have HD7 : Hid (ce = 0 → WayC w7 n (.int .i64 ak) (.int .i64 ai) (.bool ab) (.slice aao alen acap) (dualE n t)) := fun h => (HD6.out h).keep g7
  have HR7 : Hid (ce = 0 → PrR w7 (.slice ro rl rc) (risksL n t k.toNat (2 ^ k.toNat))) := fun h => (HR2.out h).keep g7
  clear p0 p1 p2 p3 g7 B6 D6 G6 HD6 HR2 hce
  obtain ⟨p0, p1, p2, p3⟩ := B7.out.c4
  go_wp2_with fail
  obtain ⟨b0, hb0⟩ : ∃ b0, b0 = checkE n t xs.length := ⟨_, rfl⟩
  obtain ⟨BE, hBE⟩ : ∃ BE, BE = badN xs b0 xs.length := ⟨_, rfl⟩
  obtain ⟨hcl, hsm⟩ := closed_bad n t xs BE (by rw [hBE, hb0])
  refine (closed_at n t _ _ _ _ _ xs _ (HW.out.keep G7.out) (HX.out.keep G7.out)).mono ?_
  rintro e w8 ⟨rfl, g8⟩
  rw [hcl]
  obtain ⟨v, hv⟩ : ∃ v, v = if BE = 0 then leadsE xs n t else 0 := ⟨_, rfl⟩
  rw [← hv]
  have HV := hide hv
  have HB0 := hide hb0
  have HBE := hide hBE
  have HSM := hide hsm
  have B8 := hide (B7.out.keep0 g8)
  have D8 := hide (D7.out.keep0 g8)
  have G8 := hide (gr_none G7.out g8)
  have HD8 : Hid (ce = 0 → WayC w8 n (.int .i64 ak) (.int .i64 ai) (.bool ab) (.slice aao alen acap) (dualE n t)) := fun h => (HD7.out h).keep g8
  have HR8 : Hid (ce = 0 → PrR w8 (.slice ro rl rc) (risksL n t k.toNat (2 ^ k.toNat))) := fun h => (HR7.out h).keep g8
  clear p0 p1 p2 p3 g8 B7 D7 G7 HD7 HR7 hv hBE hsm hcl
  obtain ⟨p0, p1, p2, p3⟩ := B8.out.c4
  go_wp2_with fail
  refine (rCheck_at xs.length n t _ _ _ _ _ (HW.out.keep G8.out) hsz).mono ?_
  rintro e w9 ⟨rfl, g9⟩
  rw [← hb0]
  have B9 := hide (B8.out.keep0 g9)
  have D9 := hide (D8.out.keep0 g9)
  have G9 := hide (gr_none G8.out g9)
  have HD9 : Hid (ce = 0 → WayC w9 n (.int .i64 ak) (.int .i64 ai) (.bool ab) (.slice aao alen acap) (dualE n t)) := fun h => (HD8.out h).keep g9
  have HR9 : Hid (ce = 0 → PrR w9 (.slice ro rl rc) (risksL n t k.toNat (2 ^ k.toNat))) := fun h => (HR8.out h).keep g9
  clear p0 p1 p2 p3 g9 B8 D8 G8 HD8 HR8 hb0
  go_wp2
  go_loopw [17, 81] (fun bv iv wr => Hid (BadR w9 xs b0 bv iv wr)) (fun _ iv _ => xs.length - (intOf iv).toNat)
  case atStart => exact ⟨0, Nat.zero_le _, rfl, by rw [badN_zero], gr_refl _ _⟩
  case round =>
    obtain ⟨j, hj, rfl, rfl, hgr⟩ := hrel.out
    have HGR := hide hgr
    clear hgr hrel
    by_cases hlt : j < xs.length
    · obtain ⟨gb, off, rfl, hgb, hcell⟩ := HX3.out j hlt
      have q := gr_cell HGR.out (gr_cell G9.out hcell)
      obtain ⟨y, hy⟩ : ∃ y, y = xs[j] := ⟨_, rfl⟩
      rw [← hy] at q
      have HY := hide hy
      clear hcell hy
      by_cases hb : b0 = 0
      · subst hb
        have hst := badN_step xs j hlt
        rw [← HY.out] at hst
        have HST := hide hst
        obtain ⟨bn, hbn⟩ : ∃ bn, bn = badN xs 0 j := ⟨_, rfl⟩
        rw [← hbn] at HST ⊢
        clear hst hbn
        by_cases hz : bn = 0
        · subst hz
          by_cases hy0 : y < 0
          · have HN : Hid (badN xs 0 (j + 1) = 5) := by rw [HST.out, if_pos ⟨rfl, .inl hy0⟩]; rfl
            go_wp2
            go_roundw
            case rel => exact ⟨j + 1, by omega, by go_num, by rw [HN.out], HGR.out⟩
            case measure => simp [intOf]; omega
          · have hy0' : decide (y < 0) = false := by simpa using hy0
            by_cases hy2 : 2 < y
            · have HN : Hid (badN xs 0 (j + 1) = 5) := by rw [HST.out, if_pos ⟨rfl, .inr hy2⟩]; rfl
              go_wp2
              go_roundw
              case rel => exact ⟨j + 1, by omega, by go_num, by rw [HN.out], HGR.out⟩
              case measure => simp [intOf]; omega
            · have hy2' : decide (2 < y) = false := by simpa using hy2
              have HN : Hid (badN xs 0 (j + 1) = 0) := by rw [HST.out, if_neg (by omega)]; rfl
              go_wp2
              go_roundw
              case rel => exact ⟨j + 1, by omega, by go_num, by rw [HN.out], HGR.out⟩
              case measure => simp [intOf]; omega
        · have hz' := ne_beq hz
          have HN : Hid (badN xs 0 (j + 1) = bn) := by rw [HST.out, if_neg (fun e => hz e.1)]; rfl
          clear hz
          go_wp2
          go_roundw
          case rel => exact ⟨j + 1, by omega, by go_num, by rw [HN.out], HGR.out⟩
          case measure => simp [intOf]; omega
      · have hb' := ne_beq hb
        rw [badN_off hb]
        have HB := hide hb
        clear hb
        go_wp2
        go_roundw
        case rel => exact ⟨j + 1, by omega, by go_num, by rw [badN_off HB.out], HGR.out⟩
        case measure => simp [intOf]; omega
    · obtain rfl : j = xs.length := by omega
      rw [← HBE.out]
      have BX := hide (B9.out.keep0 HGR.out)
      have DX := hide (D9.out.keep0 HGR.out)
      have GX := hide (gr_none G9.out HGR.out)
      have HDX : Hid (ce = 0 → WayC wr n (.int .i64 ak) (.int .i64 ai) (.bool ab) (.slice aao alen acap) (dualE n t)) := fun h => (HD9.out h).keep HGR.out
      have HRX : Hid (ce = 0 → PrR wr (.slice ro rl rc) (risksL n t k.toNat (2 ^ k.toNat))) := fun h => (HR9.out h).keep HGR.out
      obtain ⟨p0, p1, p2, p3⟩ := BX.out.c4
      clear HGR B9 D9 G9 HD9 HR9
      by_cases hbe : BE = 0
      · subst hbe
        obtain ⟨hsm, hc0⟩ := HSM.out rfl
        obtain rfl : v = leadsE xs n t := by rw [HV.out, if_pos rfl]
        have HSM2 := hide hsm
        have HC0 := hide hc0
        clear hsm hc0
        go_wp2_with fail
        refine (rLeads_at xs HSM2.out n t _ _ _ _ _ _ (HW.out.keep GX.out) (HX.out.keep GX.out) (check_zero HC0.out).2.2).mono ?_
        rintro e w10 ⟨rfl, g10⟩
        have BY := hide (BX.out.keep0 g10)
        have DY := hide (DX.out.keep0 g10)
        have GY := hide (gr_none GX.out g10)
        have HDY : Hid (ce = 0 → WayC w10 n (.int .i64 ak) (.int .i64 ai) (.bool ab) (.slice aao alen acap) (dualE n t)) := fun h => (HDX.out h).keep g10
        have HRY : Hid (ce = 0 → PrR w10 (.slice ro rl rc) (risksL n t k.toNat (2 ^ k.toNat))) := fun h => (HRX.out h).keep g10
        clear g10 BX DX GX HDX HRX p0 p1 p2 p3
        by_cases hcz : ce = 0
        · subst hcz
          have HDY0 := hide (HDY.out rfl)
          have HRY0 := hide (HRY.out rfl)
          clear HDY HRY
          obtain ⟨hk0, hk6, hfine⟩ := check_zero HCE.out.symm
          obtain ⟨kn, rfl⟩ : ∃ kn : Nat, k = kn := ⟨k.toNat, by omega⟩
          have HFI := hide hfine
          have hkn : kn ≤ 6 := by omega
          obtain ⟨M, hM⟩ : ∃ M, M = 2 ^ kn := ⟨_, rfl⟩
          have hp6 : M ≤ 64 := by
            rw [hM]
            have := Nat.pow_le_pow_right (show 0 < 2 by decide) hkn
            omega
          have hsh : wrap64 (2 ^ kn) = (M : Int) := by
            rw [hM]
            rw [hM] at hp6
            have e : ((2 : Int) ^ kn) = ((2 ^ kn : Nat) : Int) := by simp
            rw [e]
            unfold wrap64
            omega
          have HM := hide hM
          have htb : tb = tabN (rowF n t kn) M := by
            rw [HTB.out]
            unfold tableE
            rw [if_pos HCE.out.symm, Int.toNat_natCast, ← hM]
          have htl : tb < 18446744073709551616 := by
            rw [htb]
            have h1 := tabN_lt (rowF n t kn) M
            have h2 := Nat.pow_le_pow_right (show 0 < 2 by decide) hp6
            omega
          have HTB2 := hide htb
          clear hM htb hfine
          go_wp2_with fail
          try rw [hsh]
          go_loopw [20, 125] (fun ov iv wr => Hid (SayT w10 n t kn ov iv wr)) (fun _ iv _ => M - (intOf iv).toNat)
          case atStart => exact ⟨0, Nat.zero_le _, rfl, rfl, gr_refl _ _⟩
          case round =>
            obtain ⟨r, hr, rfl, rfl, hgr⟩ := hrel.out
            rw [← HM.out] at hr
            have HGR := hide hgr
            clear hgr hrel
            by_cases hlt : r < M
            · obtain ⟨q0, q1, q2, q3⟩ := (BY.out.keep0 HGR.out).c4
              have BZ : Hid (∀ wx, wr.grownBy wx none → BoxC wx w.heap.size #[.int .i64 kd, .int .i64 i, .bool b, .slice ao len cap]) := fun wx hg => (BY.out.keep0 HGR.out).keep0 hg
              have HWR := hide (HW.out.keep (gr_none GY.out HGR.out))
              have GG : wr.grownBy wr none := gr_refl _ _
              go_upto_region 27 with fail
              go_region_held3 (fun w' => w'.cell? ⟨w.heap.size, 0, none⟩ = some (.int .i64 kd) ∧ w'.cell? ⟨w.heap.size, 1, none⟩ = some (.int .i64 i) ∧ w'.cell? ⟨w.heap.size, 2, none⟩ = some (.bool b) ∧ w'.cell? ⟨w.heap.size, 3, none⟩ = some (.slice ao len cap)) (go_keep)
                (first | (go_at_call 14; refine (rows_at r kn _ (by omega) hkn).mono ?_; rintro e wa ⟨rfl, ha, ga⟩; have HA := hide ha; have GG : wr.grownBy wa none := gr_none (by first | exact gr_none GG (gr_drewN (gr_refl _ _) _) | exact gr_none GG (gr_drew (gr_refl _ _)) | exact GG) ga; obtain ⟨z0, z1, z2, z3⟩ := (BZ.out wa GG).c4) | (go_at_call 12; refine (rLeads_at (bitsL r kn) (bits_small r kn) n t _ _ _ _ _ _ (HWR.out.keep GG) ((HA.out.row kn (bitsL_length r kn).symm (by omega)).keep (gr_refl _ _)) (by rw [bitsL_length]; exact HFI.out)).mono ?_; rintro e wb ⟨rfl, gb⟩; have GG : wr.grownBy wb none := gr_none GG gb; obtain ⟨y0, y1, y2, y3⟩ := (BZ.out wb GG).c4))
              all_goals
                have GX2 := hide (gr_none HGR.out GG)
                clear GG
                cases hrow : (leadsE (bitsL r kn) n t == 1) with
                | false =>
                  have HROW := hide hrow
                  clear hrow
                  go_wp2
                  go_roundw
                  case rel =>
                    refine ⟨r + 1, by rw [← HM.out]; omega, by go_num, ?_, GX2.out⟩
                    rw [tabN, show rowF n t kn r = false from HROW.out]
                    simp
                  case measure => simp [intOf]; omega
                | true =>
                  have HROW := hide hrow
                  clear hrow
                  go_wp2
                  go_roundw
                  case rel =>
                    refine ⟨r + 1, by rw [← HM.out]; omega, by go_num, ?_, GX2.out⟩
                    rw [or_bit _ _ (by omega) (tabN_lt _ _), tabN, show rowF n t kn r = true from HROW.out, if_pos rfl]
                  case measure => simp [intOf]; omega
            · have hrM : r = M := by omega
              rw [hrM, ← HTB2.out]
              clear hrM hr hlt
              have HBT := hide (BY.out.keep0 HGR.out)
              have HDT := hide (DY.out.keep0 HGR.out)
              have HGT := hide (gr_none GY.out HGR.out)
              have HDD := hide (HDY0.out.keep HGR.out)
              have HRD : Hid (PrR wr (.slice ro rl rc) (risksL n t kn M)) := by
                have := HRY0.out.keep HGR.out
                rw [Int.toNat_natCast, ← HM.out] at this
                exact this
              go_wp2_with fail
              try rw [hsh]
              clear hsh HGR
              obtain ⟨wt, hwt⟩ : ∃ wt, wt = wr := ⟨_, rfl⟩
              rw [← hwt] at HBT HDT HGT HDD HRD ⊢
              clear hwt
              go_loopw [22, 141] (fun ov iv wr => Hid (SayI wt wt.heap.size n t kn ov iv wr)) (fun _ iv _ => M - (intOf iv).toNat)
              case atStart => exact ⟨0, Nat.zero_le _, rfl, World.ownsRow_nil _ _ _ _, gr_refl _ _⟩
              case round =>
                obtain ⟨r, hr, rfl, hO, hgr⟩ := hrel.out
                rw [← HM.out] at hr
                have HO := hide hO
                obtain ⟨oo, oc, rfl⟩ := hO.shape
                have HGR := hide hgr
                clear hO hgr hrel
                by_cases hlt : r < M
                · go_wp2_with fail
                  go_loopw [22, 145] (fun ov iv wr => Hid (SayJ wt wt.heap.size n t kn r ov iv wr)) (fun _ iv _ => kn - (intOf iv).toNat)
                  case atStart => exact ⟨0, Nat.zero_le _, rfl, by simpa [riskRow] using HO.out, HGR.out⟩
                  case round =>
                    clear HO HGR
                    obtain ⟨j, hj, rfl, hO, hgr⟩ := hrel.out
                    obtain ⟨ps, hps⟩ : ∃ ps, ps = risksL n t kn r ++ riskRow n t kn r j := ⟨_, rfl⟩
                    rw [← hps] at hO
                    have hpl : ps.length ≤ 1000 := by
                      rw [hps, List.length_append]
                      have h1 := risksL_length n t kn r
                      have h2 := riskRow_length n t kn r j
                      have h3 : r * kn ≤ 64 * 6 := Nat.mul_le_mul (by omega) hkn
                      omega
                    have HPS := hide hps
                    have HO := hide hO
                    obtain ⟨oo2, oc2, rfl⟩ := hO.shape
                    have HGR := hide hgr
                    clear hO hgr hrel hps
                    by_cases hjlt : j < kn
                    · have hor := or64 r j (by omega) (by omega)
                      have hr2 : r < 2 ^ kn := by rw [← HM.out]; exact hlt
                      have hbr : bits .and .u64 ((tb : Int) / 2 ^ r) 1 = if rowF n t kn r then 1 else 0 := by
                        rw [and64 tb r htl, HTB2.out, tab_bit _ _ _ hlt]
                        split <;> rfl
                      have hbt := bit_cast r j
                      by_cases hbit : r / 2 ^ j % 2 = 1
                      · rw [hbit] at hbt
                        have HRC := hide (show riskC n t kn r j = false by unfold riskC; rw [hbit]; rfl)
                        clear hbit hbr hor
                        go_wp2
                        go_roundw
                        case rel => exact ⟨j + 1, by omega, by go_num, by rw [riskRow_no HRC.out, ← HPS.out]; exact HO.out, HGR.out⟩
                        case measure => simp [intOf]; omega
                      · have hb0 : r / 2 ^ j % 2 = 0 := by omega
                        rw [hb0] at hbt
                        rw [or_free r j hb0] at hor
                        have hml := free_lt r j kn hr2 hjlt hb0
                        rw [← HM.out] at hml
                        have hbm : bits .and .u64 ((tb : Int) / 2 ^ (r + 2 ^ j)) 1 = if rowF n t kn (r + 2 ^ j) then 1 else 0 := by
                          rw [and64 tb _ htl, HTB2.out, tab_bit _ _ _ hml]
                          split <;> rfl
                        obtain ⟨m, hm⟩ : ∃ m, m = r + 2 ^ j := ⟨_, rfl⟩
                        have HMM := hide hm
                        rw [← hm] at hbm hml hor
                        have HB0 := hide hb0
                        clear hm hb0 hbit hr2
                        cases hR : rowF n t kn r with
                        | false =>
                          rw [hR] at hbr
                          have HRC := hide (show riskC n t kn r j = false by unfold riskC; rw [hR]; simp)
                          clear hR hbm hor
                          go_wp2
                          go_roundw
                          case rel => exact ⟨j + 1, by omega, by go_num, by rw [riskRow_no HRC.out, ← HPS.out]; exact HO.out, HGR.out⟩
                          case measure => simp [intOf]; omega
                        | true =>
                          rw [hR] at hbr
                          cases hS : rowF n t kn m with
                          | false =>
                            rw [hS] at hbm
                            have HRC := hide (show riskC n t kn r j = false by unfold riskC; rw [← HMM.out, hS]; simp)
                            clear hR hS
                            go_wp2
                            go_roundw
                            case rel => exact ⟨j + 1, by omega, by go_num, by rw [riskRow_no HRC.out, ← HPS.out]; exact HO.out, HGR.out⟩
                            case measure => simp [intOf]; omega
                          | true =>
                            rw [hS] at hbm
                            have HRR := hide hR
                            have HSS := hide hS
                            clear hR hS
                            go_wp2_with fail
                            refine (rows_at r kn _ (by omega) hkn).mono ?_
                            rintro e wa ⟨rfl, ha, ga⟩
                            have hbtl := HBT.out.lt
                            have hwsz := HGR.out.size
                            have HA := hide ha
                            obtain ⟨gq, hgq⟩ : ∃ gq, gq = wr.heap.size := ⟨_, rfl⟩
                            rw [← hgq] at HA ⊢
                            have HBA := hide (HBT.out.keep0 (gr_none HGR.out ga))
                            obtain ⟨q0, q1, q2, q3⟩ := HBA.out.c4
                            have hcj := HA.out.cell j (by rw [bitsL_length]; exact hjlt)
                            have hfz := HA.out.free j
                            have HA2 := hide (HA.out.set j 2 (.int .i64 2) rfl)
                            have HS1 := hide (gr_set1 wa gq j (.int .i64 2))
                            have hgw : wr.heap.size ≤ gq := by omega
                            have GB := hide (gr_in ga HS1.out hgw)
                            have hnq : ¬ w.heap.size = gq := by omega
                            have hnq2 : ¬ gq = w.heap.size := by omega
                            have hsm2 : Small ((bitsL r kn).set j 2) := by
                              intro v hv
                              rcases List.mem_or_eq_of_mem_set hv with h | h
                              · exact bits_small r kn v h
                              · exact .inr (.inr h)
                            have hln : ((bitsL r kn).set j 2).length = kn := by simp [bitsL_length]
                            have HSM3 := hide hsm2
                            have HLN := hide hln
                            clear ga ha hgq hsm2 hln
                            go_wp2_with fail
                            refine (rLeads_at _ HSM3.out n t _ _ _ _ _ _ (HW.out.keep (gr_none HGT.out (gr_none HGR.out GB.out))) (IArr.row (xs := (bitsL r kn).set j 2) HA2.out kn HLN.out.symm (by omega)) (by rw [HLN.out]; exact HFI.out)).mono ?_
                            rintro e wb ⟨rfl, gb⟩
                            have GC := hide (gr_none GB.out gb)
                            have HO2 := hide (HO.out.keep (gr_none GB.out gb))
                            obtain ⟨lv, hlv⟩ : ∃ lv, lv = leadsE ((bitsL r kn).set j 2) n t := ⟨_, rfl⟩
                            rw [← hlv]
                            have HLV := hide hlv
                            clear hlv gb q0 q1 q2 q3 HO
                            by_cases hl2 : lv = 2
                            · subst hl2
                              have HRC := hide (show riskC n t kn r j = true by unfold riskC; rw [HB0.out, HRR.out, ← HMM.out, HSS.out, ← HLV.out]; rfl)
                              have hsz2 := GC.out.size
                              go_wp2_with (at_builtin; refine wpList_append_pr _ rfl _ _ 34 rfl wt.heap.size Try.underlying34 Try.infoPair _ ps rfl (HO2.out.keep (gr_alloc (gr_refl _ _) _)) wb.heap.size (r, m) rfl (by go_simp) (by go_simp) (by omega) (by simp; omega) ?_)
                              intro ao3 cap3 w3 hO3 g3
                              have hown := HO2.out.keep (gr_alloc (gr_refl wb none) (Obj.cells #[.int .i64 (r : Nat), .int .i64 (m : Nat)] 42))
                              have HG3 := hide (hown.gr (gr_alloc (gr_none HGR.out GC.out) _) g3 (Nat.le_refl _))
                              have HO3 := hide hO3
                              clear hO3 g3 hown HO2
                              go_wp2
                              go_roundw
                              case rel =>
                                refine ⟨j + 1, by omega, by go_num, ?_, HG3.out⟩
                                rw [riskRow_yes HRC.out, ← List.append_assoc, ← HPS.out, ← HMM.out]
                                exact HO3.out
                              case measure => simp [intOf]; omega
                            · have hl2' := ne_beq hl2
                              have HRC := hide (show riskC n t kn r j = false by unfold riskC; rw [← HLV.out, hl2']; simp)
                              clear hl2
                              go_wp2
                              go_roundw
                              case rel => exact ⟨j + 1, by omega, by go_num, by rw [riskRow_no HRC.out, ← HPS.out]; exact HO2.out, gr_none HGR.out GC.out⟩
                              case measure => simp [intOf]; omega
                    · obtain rfl : j = kn := by omega
                      go_wp2
                      go_roundw
                      case rel =>
                        refine ⟨r + 1, by rw [← HM.out]; omega, by go_num, ?_, HGR.out⟩
                        rw [risksL_succ, ← HPS.out]
                        exact HO.out
                      case measure => simp [intOf]; omega
                · have hrM : r = M := by omega
                  rw [hrM] at HO ⊢
                  clear hrM hr hlt
                  have HBN := hide (check_bnd HCE.out.symm)
                  have BQ : Hid (∀ wx, wr.grownBy wx none → BoxC wx w.heap.size #[.int .i64 kd, .int .i64 i, .bool b, .slice ao len cap] ∧ BoxC wx bd #[.int .i64 ak, .int .i64 ai, .bool ab, .slice aao alen acap]) := fun wx hg => ⟨(HBT.out.keep0 HGR.out).keep0 hg, (HDT.out.keep0 HGR.out).keep0 hg⟩
                  have HWQ := hide (HW.out.keep (gr_none HGT.out HGR.out))
                  have HDQ := hide (HDD.out.keep HGR.out)
                  have HRQ := hide (HRD.out.keep HGR.out)
                  have HOQ := hide HO.out.read
                  have GG : wr.grownBy wr none := gr_refl _ _
                  obtain ⟨q0, q1, q2, q3⟩ := (BQ.out wr GG).1.c4
                  obtain ⟨f0, f1, f2, f3⟩ := (BQ.out wr GG).2.c4
                  go_upto_region 44 with fail
                  go_region_held3 (fun w' => (w'.cell? ⟨w.heap.size, 0, none⟩ = some (.int .i64 kd) ∧ w'.cell? ⟨w.heap.size, 1, none⟩ = some (.int .i64 i) ∧ w'.cell? ⟨w.heap.size, 2, none⟩ = some (.bool b) ∧ w'.cell? ⟨w.heap.size, 3, none⟩ = some (.slice ao len cap)) ∧ w'.cell? ⟨bd, 0, none⟩ = some (.int .i64 ak) ∧ w'.cell? ⟨bd, 1, none⟩ = some (.int .i64 ai) ∧ w'.cell? ⟨bd, 2, none⟩ = some (.bool ab) ∧ w'.cell? ⟨bd, 3, none⟩ = some (.slice aao alen acap)) (go_keep)
                    (first | (go_at_call 15; refine (other_at kn n t _ _ _ _ _ (HWQ.out.keep (by first | exact gr_none GG (gr_drewN (gr_refl _ _) _) | exact gr_none GG (gr_drew (gr_refl _ _)) | exact GG)) HFI.out HBN.out).mono ?_; rintro e wa ⟨a0, a1, a2, a3, rfl, ha, ga⟩; obtain ⟨ek, ei, eb, eao, elen, ecap, rfl, rfl, rfl, rfl⟩ := ha.way.cells; have HA := hide ha.way; have GG : wr.grownBy wa none := gr_none (by first | exact gr_none GG (gr_drewN (gr_refl _ _) _) | exact gr_none GG (gr_drew (gr_refl _ _)) | exact GG) ga; obtain ⟨y0, y1, y2, y3⟩ := (BQ.out wa GG).1.c4; obtain ⟨x0, x1, x2, x3⟩ := (BQ.out wa GG).2.c4) | (go_at_call 13; refine (same_at n (dualE n t) _ _ _ _ _ _ _ _ _ (HDQ.out.keep GG) HA.out).mono ?_; rintro e wb ⟨rfl, gb⟩; have GG : wr.grownBy wb none := gr_none GG gb; obtain ⟨y0, y1, y2, y3⟩ := (BQ.out wb GG).1.c4; obtain ⟨x0, x1, x2, x3⟩ := (BQ.out wb GG).2.c4) | (go_at_call 16; refine (equalPr_at (risksL n t kn M) _ _ _ (HRQ.out.keep GG) (HOQ.out.keep GG)).mono ?_; rintro e wc ⟨rfl, gc⟩; have GG : wr.grownBy wc none := gr_none GG gc; obtain ⟨y0, y1, y2, y3⟩ := (BQ.out wc GG).1.c4; obtain ⟨x0, x1, x2, x3⟩ := (BQ.out wc GG).2.c4))
                  all_goals
                    have GE := hide (gr_none HGT.out (gr_none HGR.out GG))
                    clear GG
                    go_wp2
                    go_ret
                    exact ⟨rfl, GE.out⟩
        · have hcz' := ne_beq hcz
          obtain rfl : tb = 0 := by
            rw [HTB.out]
            unfold tableE
            rw [if_neg (by rw [← HCE.out]; exact hcz)]
          obtain ⟨rfl, rfl, rfl, rfl, rfl, rfl⟩ := HD1.out hcz
          obtain rfl : rl = 0 := HR1.out hcz
          clear hcz HTB
          obtain ⟨p0, p1, p2, p3⟩ := DY.out.c4
          go_wp2_with fail
          have hzw : WayC w10 1 (.int .i64 0) (.int .i64 0) (.bool false) (.slice none 0 0) ((0, 0, false, []) : Int × Int × Bool × List (Ex 0)) := ⟨rfl, rfl, rfl, none, 0, rfl, Nat.le_refl _, Nat.zero_le _, fun j hj => absurd hj (Nat.not_lt_zero _)⟩
          refine (same_at 1 _ _ _ _ _ _ _ _ _ _ hzw hzw).mono ?_
          rintro e wz ⟨rfl, gz⟩
          have GZ := hide (gr_none GY.out gz)
          clear gz
          go_wp2
          go_ret
          exact ⟨rfl, GZ.out⟩
      · have hbe' := ne_beq hbe
        obtain rfl : v = 0 := by rw [HV.out, if_neg hbe]
        have BY := BX
        have DY := DX
        have GY := GX
        have HDY := HDX
        have HRY := HRX
        clear hbe BX DX GX HDX HRX p0 p1 p2 p3
        obtain ⟨w10, hw10⟩ : ∃ w10, w10 = wr := ⟨_, rfl⟩
        rw [← hw10] at BY DY GY HDY HRY ⊢
        clear hw10
        by_cases hcz : ce = 0
        · subst hcz
          have HDY0 := hide (HDY.out rfl)
          have HRY0 := hide (HRY.out rfl)
          clear HDY HRY
          obtain ⟨hk0, hk6, hfine⟩ := check_zero HCE.out.symm
          obtain ⟨kn, rfl⟩ : ∃ kn : Nat, k = kn := ⟨k.toNat, by omega⟩
          have HFI := hide hfine
          have hkn : kn ≤ 6 := by omega
          obtain ⟨M, hM⟩ : ∃ M, M = 2 ^ kn := ⟨_, rfl⟩
          have hp6 : M ≤ 64 := by
            rw [hM]
            have := Nat.pow_le_pow_right (show 0 < 2 by decide) hkn
            omega
          have hsh : wrap64 (2 ^ kn) = (M : Int) := by
            rw [hM]
            rw [hM] at hp6
            have e : ((2 : Int) ^ kn) = ((2 ^ kn : Nat) : Int) := by simp
            rw [e]
            unfold wrap64
            omega
          have HM := hide hM
          have htb : tb = tabN (rowF n t kn) M := by
            rw [HTB.out]
            unfold tableE
            rw [if_pos HCE.out.symm, Int.toNat_natCast, ← hM]
          have htl : tb < 18446744073709551616 := by
            rw [htb]
            have h1 := tabN_lt (rowF n t kn) M
            have h2 := Nat.pow_le_pow_right (show 0 < 2 by decide) hp6
            omega
          have HTB2 := hide htb
          clear hM htb hfine
          go_wp2_with fail
          try rw [hsh]
          go_loopw [20, 125] (fun ov iv wr => Hid (SayT w10 n t kn ov iv wr)) (fun _ iv _ => M - (intOf iv).toNat)
          case atStart => exact ⟨0, Nat.zero_le _, rfl, rfl, gr_refl _ _⟩
          case round =>
            obtain ⟨r, hr, rfl, rfl, hgr⟩ := hrel.out
            rw [← HM.out] at hr
            have HGR := hide hgr
            clear hgr hrel
            by_cases hlt : r < M
            · obtain ⟨q0, q1, q2, q3⟩ := (BY.out.keep0 HGR.out).c4
              have BZ : Hid (∀ wx, wr.grownBy wx none → BoxC wx w.heap.size #[.int .i64 kd, .int .i64 i, .bool b, .slice ao len cap]) := fun wx hg => (BY.out.keep0 HGR.out).keep0 hg
              have HWR := hide (HW.out.keep (gr_none GY.out HGR.out))
              have GG : wr.grownBy wr none := gr_refl _ _
              go_upto_region 27 with fail
              go_region_held3 (fun w' => w'.cell? ⟨w.heap.size, 0, none⟩ = some (.int .i64 kd) ∧ w'.cell? ⟨w.heap.size, 1, none⟩ = some (.int .i64 i) ∧ w'.cell? ⟨w.heap.size, 2, none⟩ = some (.bool b) ∧ w'.cell? ⟨w.heap.size, 3, none⟩ = some (.slice ao len cap)) (go_keep)
                (first | (go_at_call 14; refine (rows_at r kn _ (by omega) hkn).mono ?_; rintro e wa ⟨rfl, ha, ga⟩; have HA := hide ha; have GG : wr.grownBy wa none := gr_none (by first | exact gr_none GG (gr_drewN (gr_refl _ _) _) | exact gr_none GG (gr_drew (gr_refl _ _)) | exact GG) ga; obtain ⟨z0, z1, z2, z3⟩ := (BZ.out wa GG).c4) | (go_at_call 12; refine (rLeads_at (bitsL r kn) (bits_small r kn) n t _ _ _ _ _ _ (HWR.out.keep GG) ((HA.out.row kn (bitsL_length r kn).symm (by omega)).keep (gr_refl _ _)) (by rw [bitsL_length]; exact HFI.out)).mono ?_; rintro e wb ⟨rfl, gb⟩; have GG : wr.grownBy wb none := gr_none GG gb; obtain ⟨y0, y1, y2, y3⟩ := (BZ.out wb GG).c4))
              all_goals
                have GX2 := hide (gr_none HGR.out GG)
                clear GG
                cases hrow : (leadsE (bitsL r kn) n t == 1) with
                | false =>
                  have HROW := hide hrow
                  clear hrow
                  go_wp2
                  go_roundw
                  case rel =>
                    refine ⟨r + 1, by rw [← HM.out]; omega, by go_num, ?_, GX2.out⟩
                    rw [tabN, show rowF n t kn r = false from HROW.out]
                    simp
                  case measure => simp [intOf]; omega
                | true =>
                  have HROW := hide hrow
                  clear hrow
                  go_wp2
                  go_roundw
                  case rel =>
                    refine ⟨r + 1, by rw [← HM.out]; omega, by go_num, ?_, GX2.out⟩
                    rw [or_bit _ _ (by omega) (tabN_lt _ _), tabN, show rowF n t kn r = true from HROW.out, if_pos rfl]
                  case measure => simp [intOf]; omega
            · have hrM : r = M := by omega
              rw [hrM, ← HTB2.out]
              clear hrM hr hlt
              have HBT := hide (BY.out.keep0 HGR.out)
              have HDT := hide (DY.out.keep0 HGR.out)
              have HGT := hide (gr_none GY.out HGR.out)
              have HDD := hide (HDY0.out.keep HGR.out)
              have HRD : Hid (PrR wr (.slice ro rl rc) (risksL n t kn M)) := by
                have := HRY0.out.keep HGR.out
                rw [Int.toNat_natCast, ← HM.out] at this
                exact this
              go_wp2_with fail
              try rw [hsh]
              clear hsh HGR
              obtain ⟨wt, hwt⟩ : ∃ wt, wt = wr := ⟨_, rfl⟩
              rw [← hwt] at HBT HDT HGT HDD HRD ⊢
              clear hwt
              go_loopw [22, 141] (fun ov iv wr => Hid (SayI wt wt.heap.size n t kn ov iv wr)) (fun _ iv _ => M - (intOf iv).toNat)
              case atStart => exact ⟨0, Nat.zero_le _, rfl, World.ownsRow_nil _ _ _ _, gr_refl _ _⟩
              case round =>
                obtain ⟨r, hr, rfl, hO, hgr⟩ := hrel.out
                rw [← HM.out] at hr
                have HO := hide hO
                obtain ⟨oo, oc, rfl⟩ := hO.shape
                have HGR := hide hgr
                clear hO hgr hrel
                by_cases hlt : r < M
                · go_wp2_with fail
                  go_loopw [22, 145] (fun ov iv wr => Hid (SayJ wt wt.heap.size n t kn r ov iv wr)) (fun _ iv _ => kn - (intOf iv).toNat)
                  case atStart => exact ⟨0, Nat.zero_le _, rfl, by simpa [riskRow] using HO.out, HGR.out⟩
                  case round =>
                    clear HO HGR
                    obtain ⟨j, hj, rfl, hO, hgr⟩ := hrel.out
                    obtain ⟨ps, hps⟩ : ∃ ps, ps = risksL n t kn r ++ riskRow n t kn r j := ⟨_, rfl⟩
                    rw [← hps] at hO
                    have hpl : ps.length ≤ 1000 := by
                      rw [hps, List.length_append]
                      have h1 := risksL_length n t kn r
                      have h2 := riskRow_length n t kn r j
                      have h3 : r * kn ≤ 64 * 6 := Nat.mul_le_mul (by omega) hkn
                      omega
                    have HPS := hide hps
                    have HO := hide hO
                    obtain ⟨oo2, oc2, rfl⟩ := hO.shape
                    have HGR := hide hgr
                    clear hO hgr hrel hps
                    by_cases hjlt : j < kn
                    · have hor := or64 r j (by omega) (by omega)
                      have hr2 : r < 2 ^ kn := by rw [← HM.out]; exact hlt
                      have hbr : bits .and .u64 ((tb : Int) / 2 ^ r) 1 = if rowF n t kn r then 1 else 0 := by
                        rw [and64 tb r htl, HTB2.out, tab_bit _ _ _ hlt]
                        split <;> rfl
                      have hbt := bit_cast r j
                      by_cases hbit : r / 2 ^ j % 2 = 1
                      · rw [hbit] at hbt
                        have HRC := hide (show riskC n t kn r j = false by unfold riskC; rw [hbit]; rfl)
                        clear hbit hbr hor
                        go_wp2
                        go_roundw
                        case rel => exact ⟨j + 1, by omega, by go_num, by rw [riskRow_no HRC.out, ← HPS.out]; exact HO.out, HGR.out⟩
                        case measure => simp [intOf]; omega
                      · have hb0 : r / 2 ^ j % 2 = 0 := by omega
                        rw [hb0] at hbt
                        rw [or_free r j hb0] at hor
                        have hml := free_lt r j kn hr2 hjlt hb0
                        rw [← HM.out] at hml
                        have hbm : bits .and .u64 ((tb : Int) / 2 ^ (r + 2 ^ j)) 1 = if rowF n t kn (r + 2 ^ j) then 1 else 0 := by
                          rw [and64 tb _ htl, HTB2.out, tab_bit _ _ _ hml]
                          split <;> rfl
                        obtain ⟨m, hm⟩ : ∃ m, m = r + 2 ^ j := ⟨_, rfl⟩
                        have HMM := hide hm
                        rw [← hm] at hbm hml hor
                        have HB0 := hide hb0
                        clear hm hb0 hbit hr2
                        cases hR : rowF n t kn r with
                        | false =>
                          rw [hR] at hbr
                          have HRC := hide (show riskC n t kn r j = false by unfold riskC; rw [hR]; simp)
                          clear hR hbm hor
                          go_wp2
                          go_roundw
                          case rel => exact ⟨j + 1, by omega, by go_num, by rw [riskRow_no HRC.out, ← HPS.out]; exact HO.out, HGR.out⟩
                          case measure => simp [intOf]; omega
                        | true =>
                          rw [hR] at hbr
                          cases hS : rowF n t kn m with
                          | false =>
                            rw [hS] at hbm
                            have HRC := hide (show riskC n t kn r j = false by unfold riskC; rw [← HMM.out, hS]; simp)
                            clear hR hS
                            go_wp2
                            go_roundw
                            case rel => exact ⟨j + 1, by omega, by go_num, by rw [riskRow_no HRC.out, ← HPS.out]; exact HO.out, HGR.out⟩
                            case measure => simp [intOf]; omega
                          | true =>
                            rw [hS] at hbm
                            have HRR := hide hR
                            have HSS := hide hS
                            clear hR hS
                            go_wp2_with fail
                            refine (rows_at r kn _ (by omega) hkn).mono ?_
                            rintro e wa ⟨rfl, ha, ga⟩
                            have hbtl := HBT.out.lt
                            have hwsz := HGR.out.size
                            have HA := hide ha
                            obtain ⟨gq, hgq⟩ : ∃ gq, gq = wr.heap.size := ⟨_, rfl⟩
                            rw [← hgq] at HA ⊢
                            have HBA := hide (HBT.out.keep0 (gr_none HGR.out ga))
                            obtain ⟨q0, q1, q2, q3⟩ := HBA.out.c4
                            have hcj := HA.out.cell j (by rw [bitsL_length]; exact hjlt)
                            have hfz := HA.out.free j
                            have HA2 := hide (HA.out.set j 2 (.int .i64 2) rfl)
                            have HS1 := hide (gr_set1 wa gq j (.int .i64 2))
                            have hgw : wr.heap.size ≤ gq := by omega
                            have GB := hide (gr_in ga HS1.out hgw)
                            have hnq : ¬ w.heap.size = gq := by omega
                            have hnq2 : ¬ gq = w.heap.size := by omega
                            have hsm2 : Small ((bitsL r kn).set j 2) := by
                              intro v hv
                              rcases List.mem_or_eq_of_mem_set hv with h | h
                              · exact bits_small r kn v h
                              · exact .inr (.inr h)
                            have hln : ((bitsL r kn).set j 2).length = kn := by simp [bitsL_length]
                            have HSM3 := hide hsm2
                            have HLN := hide hln
                            clear ga ha hgq hsm2 hln
                            go_wp2_with fail
                            refine (rLeads_at _ HSM3.out n t _ _ _ _ _ _ (HW.out.keep (gr_none HGT.out (gr_none HGR.out GB.out))) (IArr.row (xs := (bitsL r kn).set j 2) HA2.out kn HLN.out.symm (by omega)) (by rw [HLN.out]; exact HFI.out)).mono ?_
                            rintro e wb ⟨rfl, gb⟩
                            have GC := hide (gr_none GB.out gb)
                            have HO2 := hide (HO.out.keep (gr_none GB.out gb))
                            obtain ⟨lv, hlv⟩ : ∃ lv, lv = leadsE ((bitsL r kn).set j 2) n t := ⟨_, rfl⟩
                            rw [← hlv]
                            have HLV := hide hlv
                            clear hlv gb q0 q1 q2 q3 HO
                            by_cases hl2 : lv = 2
                            · subst hl2
                              have HRC := hide (show riskC n t kn r j = true by unfold riskC; rw [HB0.out, HRR.out, ← HMM.out, HSS.out, ← HLV.out]; rfl)
                              have hsz2 := GC.out.size
                              go_wp2_with (at_builtin; refine wpList_append_pr _ rfl _ _ 34 rfl wt.heap.size Try.underlying34 Try.infoPair _ ps rfl (HO2.out.keep (gr_alloc (gr_refl _ _) _)) wb.heap.size (r, m) rfl (by go_simp) (by go_simp) (by omega) (by simp; omega) ?_)
                              intro ao3 cap3 w3 hO3 g3
                              have hown := HO2.out.keep (gr_alloc (gr_refl wb none) (Obj.cells #[.int .i64 (r : Nat), .int .i64 (m : Nat)] 42))
                              have HG3 := hide (hown.gr (gr_alloc (gr_none HGR.out GC.out) _) g3 (Nat.le_refl _))
                              have HO3 := hide hO3
                              clear hO3 g3 hown HO2
                              go_wp2
                              go_roundw
                              case rel =>
                                refine ⟨j + 1, by omega, by go_num, ?_, HG3.out⟩
                                rw [riskRow_yes HRC.out, ← List.append_assoc, ← HPS.out, ← HMM.out]
                                exact HO3.out
                              case measure => simp [intOf]; omega
                            · have hl2' := ne_beq hl2
                              have HRC := hide (show riskC n t kn r j = false by unfold riskC; rw [← HLV.out, hl2']; simp)
                              clear hl2
                              go_wp2
                              go_roundw
                              case rel => exact ⟨j + 1, by omega, by go_num, by rw [riskRow_no HRC.out, ← HPS.out]; exact HO2.out, gr_none HGR.out GC.out⟩
                              case measure => simp [intOf]; omega
                    · obtain rfl : j = kn := by omega
                      go_wp2
                      go_roundw
                      case rel =>
                        refine ⟨r + 1, by rw [← HM.out]; omega, by go_num, ?_, HGR.out⟩
                        rw [risksL_succ, ← HPS.out]
                        exact HO.out
                      case measure => simp [intOf]; omega
                · have hrM : r = M := by omega
                  rw [hrM] at HO ⊢
                  clear hrM hr hlt
                  have HBN := hide (check_bnd HCE.out.symm)
                  have BQ : Hid (∀ wx, wr.grownBy wx none → BoxC wx w.heap.size #[.int .i64 kd, .int .i64 i, .bool b, .slice ao len cap] ∧ BoxC wx bd #[.int .i64 ak, .int .i64 ai, .bool ab, .slice aao alen acap]) := fun wx hg => ⟨(HBT.out.keep0 HGR.out).keep0 hg, (HDT.out.keep0 HGR.out).keep0 hg⟩
                  have HWQ := hide (HW.out.keep (gr_none HGT.out HGR.out))
                  have HDQ := hide (HDD.out.keep HGR.out)
                  have HRQ := hide (HRD.out.keep HGR.out)
                  have HOQ := hide HO.out.read
                  have GG : wr.grownBy wr none := gr_refl _ _
                  obtain ⟨q0, q1, q2, q3⟩ := (BQ.out wr GG).1.c4
                  obtain ⟨f0, f1, f2, f3⟩ := (BQ.out wr GG).2.c4
                  go_upto_region 44 with fail
                  go_region_held3 (fun w' => (w'.cell? ⟨w.heap.size, 0, none⟩ = some (.int .i64 kd) ∧ w'.cell? ⟨w.heap.size, 1, none⟩ = some (.int .i64 i) ∧ w'.cell? ⟨w.heap.size, 2, none⟩ = some (.bool b) ∧ w'.cell? ⟨w.heap.size, 3, none⟩ = some (.slice ao len cap)) ∧ w'.cell? ⟨bd, 0, none⟩ = some (.int .i64 ak) ∧ w'.cell? ⟨bd, 1, none⟩ = some (.int .i64 ai) ∧ w'.cell? ⟨bd, 2, none⟩ = some (.bool ab) ∧ w'.cell? ⟨bd, 3, none⟩ = some (.slice aao alen acap)) (go_keep)
                    (first | (go_at_call 15; refine (other_at kn n t _ _ _ _ _ (HWQ.out.keep (by first | exact gr_none GG (gr_drewN (gr_refl _ _) _) | exact gr_none GG (gr_drew (gr_refl _ _)) | exact GG)) HFI.out HBN.out).mono ?_; rintro e wa ⟨a0, a1, a2, a3, rfl, ha, ga⟩; obtain ⟨ek, ei, eb, eao, elen, ecap, rfl, rfl, rfl, rfl⟩ := ha.way.cells; have HA := hide ha.way; have GG : wr.grownBy wa none := gr_none (by first | exact gr_none GG (gr_drewN (gr_refl _ _) _) | exact gr_none GG (gr_drew (gr_refl _ _)) | exact GG) ga; obtain ⟨y0, y1, y2, y3⟩ := (BQ.out wa GG).1.c4; obtain ⟨x0, x1, x2, x3⟩ := (BQ.out wa GG).2.c4) | (go_at_call 13; refine (same_at n (dualE n t) _ _ _ _ _ _ _ _ _ (HDQ.out.keep GG) HA.out).mono ?_; rintro e wb ⟨rfl, gb⟩; have GG : wr.grownBy wb none := gr_none GG gb; obtain ⟨y0, y1, y2, y3⟩ := (BQ.out wb GG).1.c4; obtain ⟨x0, x1, x2, x3⟩ := (BQ.out wb GG).2.c4) | (go_at_call 16; refine (equalPr_at (risksL n t kn M) _ _ _ (HRQ.out.keep GG) (HOQ.out.keep GG)).mono ?_; rintro e wc ⟨rfl, gc⟩; have GG : wr.grownBy wc none := gr_none GG gc; obtain ⟨y0, y1, y2, y3⟩ := (BQ.out wc GG).1.c4; obtain ⟨x0, x1, x2, x3⟩ := (BQ.out wc GG).2.c4))
                  all_goals
                    have GE := hide (gr_none HGT.out (gr_none HGR.out GG))
                    clear GG
                    go_wp2
                    go_ret
                    exact ⟨rfl, GE.out⟩
        · have hcz' := ne_beq hcz
          obtain rfl : tb = 0 := by
            rw [HTB.out]
            unfold tableE
            rw [if_neg (by rw [← HCE.out]; exact hcz)]
          obtain ⟨rfl, rfl, rfl, rfl, rfl, rfl⟩ := HD1.out hcz
          obtain rfl : rl = 0 := HR1.out hcz
          clear hcz HTB
          obtain ⟨p0, p1, p2, p3⟩ := DY.out.c4
          go_wp2_with fail
          have hzw : WayC w10 1 (.int .i64 0) (.int .i64 0) (.bool false) (.slice none 0 0) ((0, 0, false, []) : Int × Int × Bool × List (Ex 0)) := ⟨rfl, rfl, rfl, none, 0, rfl, Nat.le_refl _, Nat.zero_le _, fun j hj => absurd hj (Nat.not_lt_zero _)⟩
          refine (same_at 1 _ _ _ _ _ _ _ _ _ _ hzw hzw).mono ?_
          rintro e wz ⟨rfl, gz⟩
          have GZ := hide (gr_none GY.out gz)
          clear gz
          go_wp2
          go_ret
          exact ⟨rfl, GZ.out⟩
end Go.Proofs.Ytidnhafllbckcaa
