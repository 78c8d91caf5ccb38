/- voltaiclaw: GatesKleene. -/
import Derived.Test.YtidnhafllbckcaaGOnce
namespace Go.Proofs.Ytidnhafllbckcaa
open Go.RowKit
set_option linter.unusedVariables false
set_option linter.unusedSimpArgs false

/-- A row that is as the first inputs are, where they are known. -/
def fitN (x : List Int) (r m : Nat) : Bool := (List.range m).all fun j => x.getD j 0 == 2 || x.getD j 0 == ((r / 2 ^ j % 2 : Nat) : Int)
theorem fitN_succ (x : List Int) (r m : Nat) : fitN x r (m + 1) = (fitN x r m && (x.getD m 0 == 2 || x.getD m 0 == ((r / 2 ^ m % 2 : Nat) : Int))) := by simp [fitN, List.range_succ]
theorem fitN_all (x : List Int) (r : Nat) : fitN x r x.length = fitB x r := rfl

/-- Is there a row of those ahead that fits, and says so? -/
def anyN (n : Nat) (t : Ex n) (x : List Int) (b : Bool) (m : Nat) : Bool := (List.range m).any fun q => fitB x q && (rowF n t x.length q == b)
theorem anyN_succ (n : Nat) (t : Ex n) (x : List Int) (b : Bool) (m : Nat) : anyN n t x b (m + 1) = (anyN n t x b m || (fitB x m && (rowF n t x.length m == b))) := by simp [anyN, List.range_succ]

def KinR (w : World) (x : List Int) (r : Nat) (fv iv : Value) (wr : World) : Prop := ∃ j : Nat, j ≤ x.length ∧ iv = .int .i64 (j : Nat) ∧ fv = .bool (fitN x r j) ∧ w.grownBy wr none
def KouR (w : World) (n : Nat) (t : Ex n) (x : List Int) (zv ov iv : Value) (wr : World) : Prop := ∃ r : Nat, r ≤ 2 ^ x.length ∧ iv = .int .i64 (r : Nat) ∧ zv = .bool (anyN n t x false r) ∧ ov = .bool (anyN n t x true r) ∧ w.grownBy wr none

theorem any_false {n : Nat} {t : Ex n} {x : List Int} {b : Bool} {m : Nat} (h : ∀ q, q < m → fitB x q = true → rowF n t x.length q = !b) : anyN n t x b m = false := by
  unfold anyN
  rw [List.any_eq_false]
  intro q hq
  have hq := List.mem_range.1 hq
  cases hf : fitB x q with
  | false => simp
  | true => rw [h q hq hf]; cases b <;> simp
theorem any_true {n : Nat} {t : Ex n} {x : List Int} {b : Bool} {m : Nat} (h : ∃ q, q < m ∧ fitB x q = true ∧ rowF n t x.length q = b) : anyN n t x b m = true := by
  obtain ⟨q, h1, h2, h3⟩ := h
  unfold anyN
  rw [List.any_eq_true]
  exact ⟨q, List.mem_range.2 h1, by rw [h2, h3]; simp⟩

theorem and_not_all (M tb ub : Nat) (hM : M ≤ 64) (hs : tb + ub + 1 = 2 ^ M) : bits .andNot .u64 ((2 ^ M - 1 : Nat) : Int) (tb : Int) = (ub : Int) := by
  have hle := Nat.pow_le_pow_right (show 0 < 2 by decide) hM
  have e64 : 2 ^ 64 = 2 ^ M * 2 ^ (64 - M) := by rw [← Nat.pow_add]; congr 1; omega
  have hp : 0 < 2 ^ (64 - M) := Nat.two_pow_pos _
  have h64 : (2 : Nat) ^ 64 = 18446744073709551616 := by decide
  rw [u64_andNot_nat _ _ (by omega) (by omega), Nat.and_comm, Nat.and_two_pow_sub_one_eq_mod]
  have e2 : 18446744073709551615 - tb = ub + 2 ^ M * (2 ^ (64 - M) - 1) := by
    rw [Nat.mul_sub, Nat.mul_one, ← e64, h64]
    omega
  rw [e2, Nat.add_mul_mod_self_left, Nat.mod_eq_of_lt (by omega)]

theorem all_val (l : Nat) (hl : l < 6) : IntKind.u64.wrap (IntKind.u64.wrap (2 ^ min (IntKind.u64.wrap (2 ^ l)).toNat 64) - 1) = ((2 ^ 2 ^ l - 1 : Nat) : Int) := by
  have : l = 0 ∨ l = 1 ∨ l = 2 ∨ l = 3 ∨ l = 4 ∨ l = 5 := by omega
  rcases this with rfl | rfl | rfl | rfl | rfl | rfl <;> decide +kernel

set_option maxHeartbeats 16000000 in
set_option maxRecDepth 10000 in
theorem kleene_at (n : Nat) (t : Ex n) (c0 c1 c2 c3 xv : Value) (xs : List Int) (w : World) (hw : WayC w n c0 c1 c2 c3 t) (hx : IntR w xv xs) :
    Calls Try.prog 4 #[.agg #[c0, c1, c2, c3], xv] w fun e w' => e = .returned (.bool true) ∧ w.grownBy w' none := by
  have HW := hide hw
  have HX := hide hx
  obtain ⟨kd, i, b, ao, len, cap, rfl, rfl, rfl, rfl⟩ := hw.cells
  obtain ⟨xo, xc, rfl, hx1, hx2, hx3⟩ := hx
  have HX3 := hide hx3
  unfold maxLen at hx2
  clear hw hx3
  have gA : Hid (w.grownBy (w.alloc (Obj.cells #[.int .i64 kd, .int .i64 i, .bool b, .slice ao len cap] 24)) none) := gr_alloc (gr_refl _ _) _
  go_enter Try.func4, Try.ntmps4
  go_wp2_with fail
  refine (closes_at _).mono ?_
  rintro e w1 ⟨rfl, g1⟩
  have B1 := hide (boxKept g1)
  have G1 := hide (gr_none gA.out g1)
  obtain ⟨p0, p1, p2, p3⟩ := B1.out.c4
  clear g1
  go_wp2_with fail
  refine (closed_at n t _ _ _ _ _ xs _ (HW.out.keep G1.out) (HX.out.keep G1.out)).mono ?_
  rintro e w2 ⟨rfl, g2⟩
  have B2 := hide (B1.out.keep0 g2)
  have G2 := hide (gr_none G1.out g2)
  obtain ⟨q0, q1, q2, q3⟩ := B2.out.c4
  clear g2 p0 p1 p2 p3
  go_wp2_with fail
  refine (table_at n t _ _ _ _ xs.length _ (HW.out.keep G2.out)).mono ?_
  rintro e w3 ⟨rfl, g3⟩
  have B3 := hide (B2.out.keep0 g3)
  have G3 := hide (gr_none G2.out g3)
  obtain ⟨p0, p1, p2, p3⟩ := B3.out.c4
  clear g3 q0 q1 q2 q3
  go_wp2_with fail
  refine (dualOf_at n t _ _ _ _ xs.length _ (HW.out.keep G3.out)).mono ?_
  intro e w4 hD
  obtain ⟨R, hR⟩ : ∃ R, R = closedE n t xs := ⟨_, rfl⟩
  obtain ⟨TB, hTB⟩ : ∃ TB, TB = tableE n t xs.length := ⟨_, rfl⟩
  rw [← hR, ← hTB]
  clear p0 p1 p2 p3
  rcases hD with ⟨hc, rfl, g4⟩ | ⟨hc, a0, a1, a2, a3, rfl, hda, g4⟩
  · obtain ⟨v, e⟩ := R
    obtain ⟨tb, tf⟩ := TB
    unfold closedE at hR
    rw [if_neg hc] at hR
    simp only [Prod.mk.injEq] at hR
    obtain ⟨rfl, rfl⟩ := hR
    have G4 := hide (gr_none G3.out g4)
    obtain ⟨ce, hce⟩ : ∃ ce, ce = checkE n t xs.length := ⟨_, rfl⟩
    rw [← hce] at hc ⊢
    have hcn : (ce != 0) = true := by simp [hc]
    have hcb := ne_beq hc
    clear hTB g4 hce hc
    go_wp2
    go_ret
    exact ⟨rfl, gr_alloc G4.out _⟩
  · obtain ⟨ak, ai, ab, aao, alen, acap, rfl, rfl, rfl, rfl⟩ := hda.cells
    have HDA := hide hda
    have G4 := hide (gr_none G3.out g4)
    have B4 := hide (B3.out.keep0 g4)
    have HC := hide hc
    obtain ⟨v, e⟩ := R
    obtain ⟨tb, tf⟩ := TB
    unfold closedE at hR
    rw [if_pos hc] at hR
    unfold tableE at hTB
    rw [if_pos hc, Int.toNat_natCast] at hTB
    simp only [Prod.mk.injEq] at hTB
    obtain ⟨htb, rfl⟩ := hTB
    obtain ⟨_, hk6, hfine⟩ := check_zero hc
    have HFI := hide hfine
    have HTB := hide htb
    clear hda g4 hc hfine htb
    by_cases hsm : smallB xs = true
    · rw [if_pos hsm] at hR
      simp only [Prod.mk.injEq] at hR
      obtain ⟨hv, rfl⟩ := hR
      have HSM := hide ((small_iff xs).1 hsm)
      have HV := hide hv
      clear hsm hv
      obtain ⟨M, hM⟩ : ∃ M, M = 2 ^ xs.length := ⟨_, rfl⟩
      have hp6 : M ≤ 64 := by
        rw [hM]
        have := Nat.pow_le_pow_right (show 0 < 2 by decide) (show xs.length ≤ 6 by omega)
        omega
      have hsh : wrap64 (2 ^ xs.length) = (M : Int) := by
        rw [hM]
        rw [hM] at hp6
        have e : ((2 : Int) ^ xs.length) = ((2 ^ xs.length : Nat) : Int) := by simp
        rw [e]
        unfold wrap64
        omega
      have HM := hide hM
      have htl : tb < 18446744073709551616 := by
        rw [HTB.out, ← hM]
        have h1 := tabN_lt (rowF n t xs.length) M
        have h2 := Nat.pow_le_pow_right (show 0 < 2 by decide) hp6
        omega
      have HTB2 := hide (show tb = tabN (rowF n t xs.length) M by rw [HTB.out, hM])
      clear hM
      have OC : Hid (BoxC (w4.alloc (Obj.cells #[.int .i64 ak, .int .i64 ai, .bool ab, .slice aao alen acap] 24)) w4.heap.size #[.int .i64 ak, .int .i64 ai, .bool ab, .slice aao alen acap]) := boxNew _ _ _
      have gB : Hid (w4.grownBy (w4.alloc (Obj.cells #[.int .i64 ak, .int .i64 ai, .bool ab, .slice aao alen acap] 24)) none) := gr_alloc (gr_refl _ _) _
      go_wp2_with fail
      generalize w4.alloc (Obj.cells #[.int .i64 ak, .int .i64 ai, .bool ab, .slice aao alen acap] 24) = W5 at *
      have G5 := hide (gr_none G4.out gB.out)
      have B5 := hide (B4.out.keep0 gB.out)
      have D5 := hide (HDA.out.keep gB.out)
      obtain ⟨bd, hbd⟩ : ∃ bd, bd = w4.heap.size := ⟨_, rfl⟩
      rw [← hbd] at OC ⊢
      clear hbd gB HDA B4 G4 G3 B3 B2 G2 B1 G1
      rw [hsh]
      clear hsh
      go_loopw [11, 12, 57] (fun zv ov iv wr => Hid (KouR W5 n t xs zv ov iv wr)) (fun _ _ iv _ => M - (intOf iv).toNat)
      case atStart => exact ⟨0, Nat.zero_le _, rfl, rfl, rfl, gr_refl _ _⟩
      case round =>
        obtain ⟨r, hr, rfl, rfl, rfl, hgr⟩ := hrel.out
        rw [← HM.out] at hr
        have HGR := hide hgr
        clear hgr hrel
        by_cases hlt : r < M
        · go_wp2_with fail
          go_loopw [14, 62] (fun fv iv wr => Hid (KinR W5 xs r fv iv wr)) (fun _ iv _ => xs.length - (intOf iv).toNat)
          case atStart => exact ⟨0, Nat.zero_le _, rfl, rfl, HGR.out⟩
          case round =>
            clear HGR
            obtain ⟨j, hj, rfl, rfl, hgr⟩ := hrel.out
            have HGR := hide hgr
            clear hgr hrel
            by_cases hjlt : j < xs.length
            · obtain ⟨gb, off, rfl, hgb, hcell⟩ := HX3.out j hjlt
              have q := gr_cell HGR.out (gr_cell G5.out hcell)
              obtain ⟨y, hy⟩ : ∃ y, y = xs[j] := ⟨_, rfl⟩
              rw [← hy] at q
              have hyd : xs.getD j 0 = y := by rw [hy]; simp [List.getD_eq_getElem?_getD, hjlt]
              have HYD := hide hyd
              have hbit := bit_cast r j
              obtain ⟨bv, hbv⟩ : ∃ bv : Int, bv = ((r / 2 ^ j % 2 : Nat) : Int) := ⟨_, rfl⟩
              rw [← hbv] at hbit
              have HBV := hide hbv
              clear hy hyd hbv hcell
              cases hfit : fitN xs r j with
              | false =>
                have HFT := hide hfit
                clear hfit
                go_wp2
                go_roundw
                case rel =>
                  refine ⟨j + 1, by omega, by go_num, ?_, HGR.out⟩
                  rw [fitN_succ, HFT.out, HYD.out, ← HBV.out]
                  rfl
                case measure => simp [intOf]; omega
              | true =>
                have HFT := hide hfit
                clear hfit
                by_cases hy2 : y = 2
                · subst hy2
                  go_wp2
                  go_roundw
                  case rel =>
                    refine ⟨j + 1, by omega, by go_num, ?_, HGR.out⟩
                    rw [fitN_succ, HFT.out, HYD.out, ← HBV.out]
                    rfl
                  case measure => simp [intOf]; omega
                · have hy2' := ne_beq hy2
                  clear hy2
                  go_wp2
                  go_roundw
                  case rel =>
                    refine ⟨j + 1, by omega, by go_num, ?_, HGR.out⟩
                    rw [fitN_succ, HFT.out, HYD.out, ← HBV.out]
                    rw [hy2']; rfl
                  case measure => simp [intOf]; omega
            · obtain rfl : j = xs.length := by omega
              have hbr : bits .and .u64 ((tb : Int) / 2 ^ r) 1 = if rowF n t xs.length r then 1 else 0 := by
                rw [and64 tb r htl, HTB2.out, tab_bit _ _ _ hlt]
                split <;> rfl
              cases hfit : fitN xs r xs.length with
              | false =>
                have HFT := hide hfit
                clear hfit hbr
                go_wp2
                go_roundw
                case rel =>
                  refine ⟨r + 1, by rw [← HM.out]; omega, by go_num, ?_, ?_, HGR.out⟩
                  · rw [anyN_succ, ← fitN_all, HFT.out]; simp
                  · rw [anyN_succ, ← fitN_all, HFT.out]; simp
                case measure => simp [intOf]; omega
              | true =>
                have HFT := hide hfit
                clear hfit
                cases hrow : rowF n t xs.length r with
                | true =>
                  rw [hrow] at hbr
                  have HRW := hide hrow
                  clear hrow
                  go_wp2
                  go_roundw
                  case rel =>
                    refine ⟨r + 1, by rw [← HM.out]; omega, by go_num, ?_, ?_, HGR.out⟩
                    · rw [anyN_succ, ← fitN_all, HFT.out, HRW.out]; simp
                    · rw [anyN_succ, ← fitN_all, HFT.out, HRW.out]; simp
                  case measure => simp [intOf]; omega
                | false =>
                  rw [hrow] at hbr
                  have HRW := hide hrow
                  clear hrow
                  go_wp2
                  go_roundw
                  case rel =>
                    refine ⟨r + 1, by rw [← HM.out]; omega, by go_num, ?_, ?_, HGR.out⟩
                    · rw [anyN_succ, ← fitN_all, HFT.out, HRW.out]; simp
                    · rw [anyN_succ, ← fitN_all, HFT.out, HRW.out]; simp
                  case measure => simp [intOf]; omega
        · have hrM : r = M := by omega
          rw [hrM]
          clear hrM hr hlt
          obtain ⟨Z, hZ⟩ : ∃ Z, Z = anyN n t xs false M := ⟨_, rfl⟩
          obtain ⟨O, hO⟩ : ∃ O, O = anyN n t xs true M := ⟨_, rfl⟩
          rw [← hZ, ← hO]
          have HZ := hide hZ
          have HO := hide hO
          have hmm := @run_makeMap Try.prog
          have HWR := hide (HW.out.keep (gr_none G5.out HGR.out))
          have BWR := hide (B5.out.keep0 HGR.out)
          obtain ⟨q0, q1, q2, q3⟩ := BWR.out.c4
          clear hZ hO
          have hON := hide (check_ins HC.out)
          rcases leads_small HSM.out n t with hv | hv | hv
          · obtain rfl : v = 0 := HV.out.trans hv
            obtain rfl : O = false := by
              rw [HO.out]
              exact any_false fun q _ hf => by rw [kleene_known n t xs q hf 0 hv (by decide)]; rfl
            clear hv
            go_wp2_with fail
            refine (once_at xs.length hk6 n t _ _ _ _ wr.heap.size 0 [] _ (HWR.out.wayP.keep (ok' := fun x => x < wr.heap.size) (gr_alloc (gr_refl _ none) _) (fun x _ hx => ⟨by simp, hx⟩)) HFI.out (seen_made wr) List.nodup_nil (by have := hON.out; omega)).mono ?_
            rintro e w6 ⟨rr, rfl, g6, hrr⟩
            have HRR := hide hrr
            have G6 := hide (gr_tail (gr_alloc (gr_refl wr none) (.map #[] 0)) g6)
            have hbl6 := (OC.out.keep0 HGR.out).lt
            have BD6 := hide ((OC.out.keep0 HGR.out).keepO G6.out (fun e => by have := Option.some.inj e; omega))
            have D6 := hide (((D5.out.keep HGR.out).wayP.keep (ok' := fun _ => True) G6.out (fun x hx _ => ⟨fun e => by have := Option.some.inj e; omega, trivial⟩)).way)
            have GW6 := hide (gr_in (gr_none G5.out HGR.out) G6.out (by have := (gr_none G5.out HGR.out).size; omega))
            obtain ⟨y0, y1, y2, y3⟩ := BD6.out.c4
            clear hrr g6 q0 q1 q2 q3
            cases rr with
            | true =>
              go_wp2_with fail
              refine (table_at n (dualE n t) _ _ _ _ xs.length _ D6.out).mono ?_
              rintro e w7 ⟨rfl, g7⟩
              obtain ⟨ub, hub⟩ : ∃ ub, ub = tabN (rowF n (dualE n t) xs.length) M := ⟨_, rfl⟩
              have e : tableE n (dualE n t) xs.length = (ub, 0) := by
                unfold tableE
                rw [if_pos (check_dual HC.out), Int.toNat_natCast, ← HM.out, hub]
              rw [e]
              have hsum : tb + ub + 1 = 2 ^ M := by
                rw [HTB2.out, hub]
                exact tab_not _ _ M fun r _ => table_dual HC.out r
              have hand := and_not_all M tb ub hp6 hsum
              have HAND := hide hand
              have G7 := hide (gr_none GW6.out g7)
              clear hub e hsum g7 y0 y1 y2 y3 hand
              by_cases h6 : xs.length = 6
              · have h6' : ((xs.length : Int) == 6) = true := eq_beq (by omega)
                have hfin : (((ub : Nat) : Int) == bits .andNot .u64 18446744073709551615 (tb : Int)) = true := by
                  have h := HAND.out
                  rw [HM.out, h6] at h
                  rw [← h]
                  exact beq_self_eq_true _
                clear h6
                go_wp2
                go_ret
                exact ⟨rfl, G7.out⟩
              · have h6' : ((xs.length : Int) == 6) = false := ne_beq (by omega)
                have hfin : (((ub : Nat) : Int) == bits .andNot .u64 (IntKind.u64.wrap (IntKind.u64.wrap (2 ^ min (IntKind.u64.wrap (2 ^ xs.length)).toNat 64) - 1)) (tb : Int)) = true := by
                  rw [all_val xs.length (by omega), ← HM.out, HAND.out]
                  exact beq_self_eq_true _
                have HFIN := hide hfin
                clear hfin
                go_wp2
                go_ret
                exact ⟨congrArg (fun b => Ending.returned (Value.bool b)) HFIN.out, G7.out⟩
            | false =>
              go_wp2_with fail
              refine (table_at n (dualE n t) _ _ _ _ xs.length _ D6.out).mono ?_
              rintro e w7 ⟨rfl, g7⟩
              obtain ⟨ub, hub⟩ : ∃ ub, ub = tabN (rowF n (dualE n t) xs.length) M := ⟨_, rfl⟩
              have e : tableE n (dualE n t) xs.length = (ub, 0) := by
                unfold tableE
                rw [if_pos (check_dual HC.out), Int.toNat_natCast, ← HM.out, hub]
              rw [e]
              have hsum : tb + ub + 1 = 2 ^ M := by
                rw [HTB2.out, hub]
                exact tab_not _ _ M fun r _ => table_dual HC.out r
              have hand := and_not_all M tb ub hp6 hsum
              have HAND := hide hand
              have G7 := hide (gr_none GW6.out g7)
              clear hub e hsum g7 y0 y1 y2 y3 hand
              by_cases h6 : xs.length = 6
              · have h6' : ((xs.length : Int) == 6) = true := eq_beq (by omega)
                have hfin : (((ub : Nat) : Int) == bits .andNot .u64 18446744073709551615 (tb : Int)) = true := by
                  have h := HAND.out
                  rw [HM.out, h6] at h
                  rw [← h]
                  exact beq_self_eq_true _
                clear h6
                go_wp2
                go_ret
                exact ⟨rfl, G7.out⟩
              · have h6' : ((xs.length : Int) == 6) = false := ne_beq (by omega)
                have hfin : (((ub : Nat) : Int) == bits .andNot .u64 (IntKind.u64.wrap (IntKind.u64.wrap (2 ^ min (IntKind.u64.wrap (2 ^ xs.length)).toNat 64) - 1)) (tb : Int)) = true := by
                  rw [all_val xs.length (by omega), ← HM.out, HAND.out]
                  exact beq_self_eq_true _
                have HFIN := hide hfin
                clear hfin
                go_wp2
                go_ret
                exact ⟨congrArg (fun b => Ending.returned (Value.bool b)) HFIN.out, G7.out⟩
          · obtain rfl : v = 1 := HV.out.trans hv
            obtain rfl : Z = false := by
              rw [HZ.out]
              exact any_false fun q _ hf => by rw [kleene_known n t xs q hf 1 hv (by decide)]; rfl
            clear hv
            go_wp2_with fail
            refine (once_at xs.length hk6 n t _ _ _ _ wr.heap.size 0 [] _ (HWR.out.wayP.keep (ok' := fun x => x < wr.heap.size) (gr_alloc (gr_refl _ none) _) (fun x _ hx => ⟨by simp, hx⟩)) HFI.out (seen_made wr) List.nodup_nil (by have := hON.out; omega)).mono ?_
            rintro e w6 ⟨rr, rfl, g6, hrr⟩
            have HRR := hide hrr
            have G6 := hide (gr_tail (gr_alloc (gr_refl wr none) (.map #[] 0)) g6)
            have hbl6 := (OC.out.keep0 HGR.out).lt
            have BD6 := hide ((OC.out.keep0 HGR.out).keepO G6.out (fun e => by have := Option.some.inj e; omega))
            have D6 := hide (((D5.out.keep HGR.out).wayP.keep (ok' := fun _ => True) G6.out (fun x hx _ => ⟨fun e => by have := Option.some.inj e; omega, trivial⟩)).way)
            have GW6 := hide (gr_in (gr_none G5.out HGR.out) G6.out (by have := (gr_none G5.out HGR.out).size; omega))
            obtain ⟨y0, y1, y2, y3⟩ := BD6.out.c4
            clear hrr g6 q0 q1 q2 q3
            cases rr with
            | true =>
              go_wp2_with fail
              refine (table_at n (dualE n t) _ _ _ _ xs.length _ D6.out).mono ?_
              rintro e w7 ⟨rfl, g7⟩
              obtain ⟨ub, hub⟩ : ∃ ub, ub = tabN (rowF n (dualE n t) xs.length) M := ⟨_, rfl⟩
              have e : tableE n (dualE n t) xs.length = (ub, 0) := by
                unfold tableE
                rw [if_pos (check_dual HC.out), Int.toNat_natCast, ← HM.out, hub]
              rw [e]
              have hsum : tb + ub + 1 = 2 ^ M := by
                rw [HTB2.out, hub]
                exact tab_not _ _ M fun r _ => table_dual HC.out r
              have hand := and_not_all M tb ub hp6 hsum
              have HAND := hide hand
              have G7 := hide (gr_none GW6.out g7)
              clear hub e hsum g7 y0 y1 y2 y3 hand
              by_cases h6 : xs.length = 6
              · have h6' : ((xs.length : Int) == 6) = true := eq_beq (by omega)
                have hfin : (((ub : Nat) : Int) == bits .andNot .u64 18446744073709551615 (tb : Int)) = true := by
                  have h := HAND.out
                  rw [HM.out, h6] at h
                  rw [← h]
                  exact beq_self_eq_true _
                clear h6
                go_wp2
                go_ret
                exact ⟨rfl, G7.out⟩
              · have h6' : ((xs.length : Int) == 6) = false := ne_beq (by omega)
                have hfin : (((ub : Nat) : Int) == bits .andNot .u64 (IntKind.u64.wrap (IntKind.u64.wrap (2 ^ min (IntKind.u64.wrap (2 ^ xs.length)).toNat 64) - 1)) (tb : Int)) = true := by
                  rw [all_val xs.length (by omega), ← HM.out, HAND.out]
                  exact beq_self_eq_true _
                have HFIN := hide hfin
                clear hfin
                go_wp2
                go_ret
                exact ⟨congrArg (fun b => Ending.returned (Value.bool b)) HFIN.out, G7.out⟩
            | false =>
              go_wp2_with fail
              refine (table_at n (dualE n t) _ _ _ _ xs.length _ D6.out).mono ?_
              rintro e w7 ⟨rfl, g7⟩
              obtain ⟨ub, hub⟩ : ∃ ub, ub = tabN (rowF n (dualE n t) xs.length) M := ⟨_, rfl⟩
              have e : tableE n (dualE n t) xs.length = (ub, 0) := by
                unfold tableE
                rw [if_pos (check_dual HC.out), Int.toNat_natCast, ← HM.out, hub]
              rw [e]
              have hsum : tb + ub + 1 = 2 ^ M := by
                rw [HTB2.out, hub]
                exact tab_not _ _ M fun r _ => table_dual HC.out r
              have hand := and_not_all M tb ub hp6 hsum
              have HAND := hide hand
              have G7 := hide (gr_none GW6.out g7)
              clear hub e hsum g7 y0 y1 y2 y3 hand
              by_cases h6 : xs.length = 6
              · have h6' : ((xs.length : Int) == 6) = true := eq_beq (by omega)
                have hfin : (((ub : Nat) : Int) == bits .andNot .u64 18446744073709551615 (tb : Int)) = true := by
                  have h := HAND.out
                  rw [HM.out, h6] at h
                  rw [← h]
                  exact beq_self_eq_true _
                clear h6
                go_wp2
                go_ret
                exact ⟨rfl, G7.out⟩
              · have h6' : ((xs.length : Int) == 6) = false := ne_beq (by omega)
                have hfin : (((ub : Nat) : Int) == bits .andNot .u64 (IntKind.u64.wrap (IntKind.u64.wrap (2 ^ min (IntKind.u64.wrap (2 ^ xs.length)).toNat 64) - 1)) (tb : Int)) = true := by
                  rw [all_val xs.length (by omega), ← HM.out, HAND.out]
                  exact beq_self_eq_true _
                have HFIN := hide hfin
                clear hfin
                go_wp2
                go_ret
                exact ⟨congrArg (fun b => Ending.returned (Value.bool b)) HFIN.out, G7.out⟩
          · obtain rfl : v = 2 := HV.out.trans hv
            clear hv
            go_wp2_with fail
            refine (once_at xs.length hk6 n t _ _ _ _ wr.heap.size 0 [] _ (HWR.out.wayP.keep (ok' := fun x => x < wr.heap.size) (gr_alloc (gr_refl _ none) _) (fun x _ hx => ⟨by simp, hx⟩)) HFI.out (seen_made wr) List.nodup_nil (by have := hON.out; omega)).mono ?_
            rintro e w6 ⟨rr, rfl, g6, hrr⟩
            have HRR := hide hrr
            have G6 := hide (gr_tail (gr_alloc (gr_refl wr none) (.map #[] 0)) g6)
            have hbl6 := (OC.out.keep0 HGR.out).lt
            have BD6 := hide ((OC.out.keep0 HGR.out).keepO G6.out (fun e => by have := Option.some.inj e; omega))
            have D6 := hide (((D5.out.keep HGR.out).wayP.keep (ok' := fun _ => True) G6.out (fun x hx _ => ⟨fun e => by have := Option.some.inj e; omega, trivial⟩)).way)
            have GW6 := hide (gr_in (gr_none G5.out HGR.out) G6.out (by have := (gr_none G5.out HGR.out).size; omega))
            obtain ⟨y0, y1, y2, y3⟩ := BD6.out.c4
            clear hrr g6 q0 q1 q2 q3
            cases rr with
            | true =>
              obtain ⟨_, hnd⟩ := HRR.out rfl
              rw [List.nil_append] at hnd
              obtain rfl : Z = true := by
                rw [HZ.out]
                exact any_true (by rw [HM.out]; exact kleene_once n t xs HFI.out hnd HSM.out HV.out.symm false)
              obtain rfl : O = true := by
                rw [HO.out]
                exact any_true (by rw [HM.out]; exact kleene_once n t xs HFI.out hnd HSM.out HV.out.symm true)
              clear hnd
              go_wp2_with fail
              refine (table_at n (dualE n t) _ _ _ _ xs.length _ D6.out).mono ?_
              rintro e w7 ⟨rfl, g7⟩
              obtain ⟨ub, hub⟩ : ∃ ub, ub = tabN (rowF n (dualE n t) xs.length) M := ⟨_, rfl⟩
              have e : tableE n (dualE n t) xs.length = (ub, 0) := by
                unfold tableE
                rw [if_pos (check_dual HC.out), Int.toNat_natCast, ← HM.out, hub]
              rw [e]
              have hsum : tb + ub + 1 = 2 ^ M := by
                rw [HTB2.out, hub]
                exact tab_not _ _ M fun r _ => table_dual HC.out r
              have hand := and_not_all M tb ub hp6 hsum
              have HAND := hide hand
              have G7 := hide (gr_none GW6.out g7)
              clear hub e hsum g7 y0 y1 y2 y3 hand
              by_cases h6 : xs.length = 6
              · have h6' : ((xs.length : Int) == 6) = true := eq_beq (by omega)
                have hfin : (((ub : Nat) : Int) == bits .andNot .u64 18446744073709551615 (tb : Int)) = true := by
                  have h := HAND.out
                  rw [HM.out, h6] at h
                  rw [← h]
                  exact beq_self_eq_true _
                clear h6
                go_wp2
                go_ret
                exact ⟨rfl, G7.out⟩
              · have h6' : ((xs.length : Int) == 6) = false := ne_beq (by omega)
                have hfin : (((ub : Nat) : Int) == bits .andNot .u64 (IntKind.u64.wrap (IntKind.u64.wrap (2 ^ min (IntKind.u64.wrap (2 ^ xs.length)).toNat 64) - 1)) (tb : Int)) = true := by
                  rw [all_val xs.length (by omega), ← HM.out, HAND.out]
                  exact beq_self_eq_true _
                have HFIN := hide hfin
                clear hfin
                go_wp2
                go_ret
                exact ⟨congrArg (fun b => Ending.returned (Value.bool b)) HFIN.out, G7.out⟩
            | false =>
              go_wp2_with fail
              refine (table_at n (dualE n t) _ _ _ _ xs.length _ D6.out).mono ?_
              rintro e w7 ⟨rfl, g7⟩
              obtain ⟨ub, hub⟩ : ∃ ub, ub = tabN (rowF n (dualE n t) xs.length) M := ⟨_, rfl⟩
              have e : tableE n (dualE n t) xs.length = (ub, 0) := by
                unfold tableE
                rw [if_pos (check_dual HC.out), Int.toNat_natCast, ← HM.out, hub]
              rw [e]
              have hsum : tb + ub + 1 = 2 ^ M := by
                rw [HTB2.out, hub]
                exact tab_not _ _ M fun r _ => table_dual HC.out r
              have hand := and_not_all M tb ub hp6 hsum
              have HAND := hide hand
              have G7 := hide (gr_none GW6.out g7)
              clear hub e hsum g7 y0 y1 y2 y3 hand
              by_cases h6 : xs.length = 6
              · have h6' : ((xs.length : Int) == 6) = true := eq_beq (by omega)
                have hfin : (((ub : Nat) : Int) == bits .andNot .u64 18446744073709551615 (tb : Int)) = true := by
                  have h := HAND.out
                  rw [HM.out, h6] at h
                  rw [← h]
                  exact beq_self_eq_true _
                clear h6
                go_wp2
                go_ret
                exact ⟨rfl, G7.out⟩
              · have h6' : ((xs.length : Int) == 6) = false := ne_beq (by omega)
                have hfin : (((ub : Nat) : Int) == bits .andNot .u64 (IntKind.u64.wrap (IntKind.u64.wrap (2 ^ min (IntKind.u64.wrap (2 ^ xs.length)).toNat 64) - 1)) (tb : Int)) = true := by
                  rw [all_val xs.length (by omega), ← HM.out, HAND.out]
                  exact beq_self_eq_true _
                have HFIN := hide hfin
                clear hfin
                go_wp2
                go_ret
                exact ⟨congrArg (fun b => Ending.returned (Value.bool b)) HFIN.out, G7.out⟩
    · rw [if_neg hsm] at hR
      simp only [Prod.mk.injEq] at hR
      obtain ⟨rfl, rfl⟩ := hR
      clear hsm
      go_wp2
      go_ret
      exact ⟨rfl, gr_alloc G4.out _⟩
end Go.Proofs.Ytidnhafllbckcaa
