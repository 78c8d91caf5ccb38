/- gates: Risks. -/
import Derived.Test.YtidnhafllbckcaaGPairs
namespace Go.Proofs.Ytidnhafllbckcaa
open Go.RowKit
set_option linter.unusedVariables false
set_option linter.unusedSimpArgs false

/-- Is the pair of rows that part in input j a risk? -/
def riskC (n : Nat) (t : Ex n) (k r j : Nat) : Bool := (r / 2 ^ j % 2 == 0) && rowF n t k r && rowF n t k (r + 2 ^ j) && (leadsE ((bitsL r k).set j 2) n t == 2)
/-- Those of one row, up to an input. -/
def riskRow (n : Nat) (t : Ex n) (k r m : Nat) : List (Nat × Nat) := ((List.range m).filter (riskC n t k r)).map fun j => (r, r + 2 ^ j)
/-- Those of all rows up to one. -/
def risksL (n : Nat) (t : Ex n) (k m : Nat) : List (Nat × Nat) := (List.range m).flatMap fun r => riskRow n t k r k

theorem riskRow_length (n : Nat) (t : Ex n) (k r m : Nat) : (riskRow n t k r m).length ≤ m := by
  unfold riskRow
  rw [List.length_map]
  have := List.length_filter_le (riskC n t k r) (List.range m)
  simpa using this
theorem risksL_length (n : Nat) (t : Ex n) (k : Nat) : ∀ m, (risksL n t k m).length ≤ m * k
  | 0 => by simp [risksL]
  | m + 1 => by
    have h1 := risksL_length n t k m
    have h2 := riskRow_length n t k m k
    have e : risksL n t k (m + 1) = risksL n t k m ++ riskRow n t k m k := by simp [risksL, List.range_succ]
    rw [e, List.length_append, Nat.add_mul]
    omega
theorem risksL_succ (n : Nat) (t : Ex n) (k m : Nat) : risksL n t k (m + 1) = risksL n t k m ++ riskRow n t k m k := by simp [risksL, List.range_succ]
theorem riskRow_yes {n : Nat} {t : Ex n} {k r m : Nat} (h : riskC n t k r m = true) : riskRow n t k r (m + 1) = riskRow n t k r m ++ [(r, r + 2 ^ m)] := by simp [riskRow, List.range_succ, List.filter_append, h]
theorem riskRow_no {n : Nat} {t : Ex n} {k r m : Nat} (h : riskC n t k r m = false) : riskRow n t k r (m + 1) = riskRow n t k r m := by simp [riskRow, List.range_succ, List.filter_append, h]

theorem or_set (r j : Nat) (h : r / 2 ^ j % 2 = 1) : r ||| 2 ^ j = r := by
  apply Nat.eq_of_testBit_eq
  intro i
  rw [Nat.testBit_or, Nat.testBit_two_pow]
  by_cases e : j = i
  · subst e
    have : r.testBit j = true := by rw [Nat.testBit_eq_decide_div_mod_eq, h]; rfl
    simp [this]
  · simp [e]
theorem or_free (r j : Nat) (h : r / 2 ^ j % 2 = 0) : r ||| 2 ^ j = r + 2 ^ j := by
  have hp : 0 < 2 ^ j := Nat.two_pow_pos _
  have e1 : r = 2 ^ (j + 1) * (r / 2 ^ (j + 1)) + r % 2 ^ j := by
    have h1 := Nat.div_add_mod r (2 ^ j)
    have h2 : r / 2 ^ j = 2 * (r / 2 ^ (j + 1)) := by
      rw [Nat.pow_succ, ← Nat.div_div_eq_div_mul]
      omega
    rw [h2, Nat.pow_succ] at h1
    rw [Nat.pow_succ, Nat.mul_assoc]
    exact h1.symm
  have hlt : r % 2 ^ j < 2 ^ j := Nat.mod_lt _ hp
  have hlt2 : 2 ^ j + r % 2 ^ j < 2 ^ (j + 1) := by rw [Nat.pow_succ]; omega
  have hlt3 : r % 2 ^ j < 2 ^ (j + 1) := by omega
  generalize r / 2 ^ (j + 1) = q at e1
  generalize hm : r % 2 ^ j = m at *
  rw [e1, Nat.two_pow_add_eq_or_of_lt hlt3, Nat.or_assoc]
  have e2 : m ||| 2 ^ j = 2 ^ j + m := by
    have := Nat.two_pow_add_eq_or_of_lt hlt 1
    rw [Nat.mul_one] at this
    rw [this, Nat.or_comm]
  rw [e2, ← Nat.two_pow_add_eq_or_of_lt hlt2, ← Nat.two_pow_add_eq_or_of_lt hlt3]
  omega
theorem free_lt (r j k : Nat) (hr : r < 2 ^ k) (hj : j < k) (h : r / 2 ^ j % 2 = 0) : r + 2 ^ j < 2 ^ k := by
  rw [← or_free r j h]
  exact Nat.or_lt_two_pow hr (Nat.pow_lt_pow_right (by decide) hj)

theorem or64 (r j : Nat) (hr : r < 64) (hj : j < 6) : bits .or .i64 (r : Int) (wrap64 (2 ^ j)) = ((r ||| 2 ^ j : Nat) : Int) := by
  have hp : 2 ^ j ≤ 32 := by
    have := Nat.pow_le_pow_right (show 0 < 2 by decide) (show j ≤ 5 by omega)
    omega
  have e : ((2 : Int) ^ j) = ((2 ^ j : Nat) : Int) := by simp
  rw [e]
  generalize 2 ^ j = p at hp ⊢
  have e2 : wrap64 (p : Int) = (p : Int) := by unfold wrap64; omega
  rw [e2, i64_or_nat _ _ (by omega) (by omega)]
theorem and64 (x r : Nat) (hx : x < 18446744073709551616) : bits .and .u64 ((x : Int) / 2 ^ r) 1 = ((x / 2 ^ r % 2 : Nat) : Int) := by
  have e : ((x : Int) / 2 ^ r) = ((x / 2 ^ r : Nat) : Int) := by simp
  have h := Nat.div_le_self x (2 ^ r)
  rw [e]
  have := u64_and_nat (x / 2 ^ r) 1 (by omega) (by omega)
  rw [nat_mask1] at this
  exact this

theorem PrO.ne {w : World} {base b : Nat} {v : Value} {ps : List (Nat × Nat)} (h : PrO w base v ps) (hb : b < base) : some b ≠ v.ownBlock := by
  intro e
  have := (World.ownsRow.lt h b e.symm).1
  omega
theorem PrO.gr {w w1 w2 : World} {base : Nat} {v : Value} {ps : List (Nat × Nat)} (h : PrO w1 base v ps) (g : w.grownBy w1 none) (k : w1.grownBy w2 v.ownBlock) (hb : w.heap.size ≤ base) : w.grownBy w2 none :=
  gr_trans g k (fun _ _ e => e) (fun b hb2 e => by
    have := (World.ownsRow.lt h b e.symm).1
    omega)

/-- What Risks answers. -/
def RiskE (w : World) (n : Nat) (t : Ex n) (k : Int) (e : Ending) (w' : World) : Prop :=
  (checkE n t k ≠ 0 ∧ e = .returned (.tuple #[.slice none 0 0, .int .i64 (checkE n t k)]) ∧ w.grownBy w' none)
  ∨ (checkE n t k = 0 ∧ ∃ v, e = .returned (.tuple #[v, .int .i64 0]) ∧ PrR w' v (risksL n t k.toNat (2 ^ k.toNat)) ∧ w.grownBy w' none)

def RisR (w : World) (base bx : Nat) (cs : Array Value) (n : Nat) (t : Ex n) (k : Nat) (ov iv : Value) (wr : World) : Prop :=
  ∃ i : Nat, i ≤ 2 ^ k ∧ iv = .int .i64 (i : Nat) ∧ PrO wr base ov (risksL n t k i) ∧ BoxC wr bx cs ∧ w.grownBy wr none
def RijR (w : World) (base bx : Nat) (cs : Array Value) (n : Nat) (t : Ex n) (k i : Nat) (ov jv : Value) (wr : World) : Prop :=
  ∃ j : Nat, j ≤ k ∧ jv = .int .i64 (j : Nat) ∧ PrO wr base ov (risksL n t k i ++ riskRow n t k i j) ∧ BoxC wr bx cs ∧ w.grownBy wr none

set_option maxHeartbeats 8000000 in
set_option maxRecDepth 10000 in
theorem risks_at (n : Nat) (t : Ex n) (c0 c1 c2 c3 : Value) (k : Int) (w : World) (hw : WayC w n c0 c1 c2 c3 t) :
    Calls Try.prog 9 #[.agg #[c0, c1, c2, c3], .int .i64 k] w fun e w' => RiskE w n t k e w' := by
  have HW := hide hw
  obtain ⟨kd, i, b, ao, len, cap, rfl, rfl, rfl, rfl⟩ := hw.cells
  clear hw
  have gA : Hid (w.grownBy (w.alloc (Obj.cells #[.int .i64 kd, .int .i64 i, .bool b, .slice ao len cap] 24)) none) := gr_alloc (gr_refl _ _) _
  go_enter Try.func9, Try.ntmps9
  go_wp2_with fail
  refine (table_at n t _ _ _ _ k _ (HW.out.keep gA.out)).mono ?_
  rintro e w1 ⟨rfl, g1⟩
  have G1 := hide (gr_none gA.out g1)
  have B1 := hide (boxKept g1)
  obtain ⟨TB, hTB⟩ : ∃ TB, TB = tableE n t k := ⟨_, rfl⟩
  rw [← hTB]
  have HT := hide hTB
  clear g1 hTB
  obtain ⟨tb, x⟩ := TB
  by_cases hc : checkE n t k = 0
  · have HC := hide hc
    obtain ⟨hk0, hk6, hfine⟩ := check_zero hc
    obtain ⟨kn, rfl⟩ : ∃ kn : Nat, k = kn := ⟨k.toNat, by omega⟩
    have HFI := hide hfine
    have hkn : kn ≤ 6 := by omega
    obtain ⟨M, hM⟩ : ∃ M, M = 2 ^ kn := ⟨_, rfl⟩
    have hp6 : M ≤ 64 := by
      rw [hM]
      have := Nat.pow_le_pow_right (show 0 < 2 by decide) hkn
      omega
    have hsh : wrap64 (2 ^ kn) = (M : Int) := by
      rw [hM]
      rw [hM] at hp6
      have e : ((2 : Int) ^ kn) = ((2 ^ kn : Nat) : Int) := by simp
      rw [e]
      unfold wrap64
      omega
    have HM := hide hM
    have e := HT.out
    unfold tableE at e
    rw [if_pos hc, Int.toNat_natCast, ← hM] at e
    simp only [Prod.mk.injEq] at e
    obtain ⟨et, rfl⟩ := e
    have htl : tb < 18446744073709551616 := by
      rw [et]
      have h1 := tabN_lt (rowF n t kn) M
      have h2 := Nat.pow_le_pow_right (show 0 < 2 by decide) hp6
      omega
    have HET := hide et
    clear hc hfine hM et
    go_wp2_with fail
    rw [hsh]
    clear hsh
    go_loopw [8, 23] (fun ov iv wr => Hid (RisR w (w.heap.size + 1) w.heap.size #[.int .i64 kd, .int .i64 i, .bool b, .slice ao len cap] n t kn ov iv wr)) (fun _ iv _ => M - (intOf iv).toNat)
    case atStart => exact ⟨0, Nat.zero_le _, rfl, World.ownsRow_nil _ _ _ _, B1.out, G1.out⟩
    case round =>
      obtain ⟨r, hr, rfl, hO, hbx, hgr⟩ := hrel.out
      rw [← HM.out] at hr
      have HO := hide hO
      obtain ⟨oo, oc, rfl⟩ := hO.shape
      have HBX := hide hbx
      have HGR := hide hgr
      clear hO hbx hgr hrel
      by_cases hlt : r < M
      · go_wp2_with fail
        go_loopw [8, 27] (fun ov jv wr2 => Hid (RijR w (w.heap.size + 1) w.heap.size #[.int .i64 kd, .int .i64 i, .bool b, .slice ao len cap] n t kn r ov jv wr2)) (fun _ jv _ => kn - (intOf jv).toNat)
        case atStart => exact ⟨0, Nat.zero_le _, rfl, by simpa [riskRow] using HO.out, HBX.out, HGR.out⟩
        case round =>
          clear HO HBX HGR
          obtain ⟨j, hj, rfl, hO, hbx, hgr⟩ := hrel.out
          obtain ⟨ps, hps⟩ : ∃ ps, ps = risksL n t kn r ++ riskRow n t kn r j := ⟨_, rfl⟩
          rw [← hps] at hO
          have hpl : ps.length ≤ 1000 := by
            rw [hps, List.length_append]
            have h1 := risksL_length n t kn r
            have h2 := riskRow_length n t kn r j
            have h3 : r * kn ≤ 64 * 6 := Nat.mul_le_mul (by omega) hkn
            omega
          have HPS := hide hps
          have HO := hide hO
          obtain ⟨oo2, oc2, rfl⟩ := hO.shape
          clear hps
          have HBX := hide hbx
          have HGR := hide hgr
          clear hO hbx hgr hrel
          by_cases hjlt : j < kn
          · obtain ⟨q0, q1, q2, q3⟩ := HBX.out.c4
            go_upto_region 12 with fail
            rw [or64 r j (by omega) (by omega)]
            have hr2 : r < 2 ^ kn := by rw [← HM.out]; exact hlt
            have hbr : bits .and .u64 ((tb : Int) / 2 ^ r) 1 = if rowF n t kn r then 1 else 0 := by
              rw [and64 tb r htl, HET.out, tab_bit _ _ _ hlt]
              split <;> rfl
            by_cases hbit : r / 2 ^ j % 2 = 1
            · rw [or_set r j hbit]
              have HRC := hide (show riskC n t kn r j = false by unfold riskC; rw [hbit]; rfl)
              clear hbit hbr
              go_wp2
              go_roundw
              case rel => exact ⟨j + 1, by omega, by go_num, by rw [riskRow_no HRC.out, ← HPS.out]; exact HO.out, HBX.out, HGR.out⟩
              case measure => simp [intOf]; omega
            · have hb0 : r / 2 ^ j % 2 = 0 := by omega
              rw [or_free r j hb0]
              have hml := free_lt r j kn hr2 hjlt hb0
              rw [← HM.out] at hml
              have hmgt : r < r + 2 ^ j := by have := Nat.two_pow_pos j; omega
              have hbm : bits .and .u64 ((tb : Int) / 2 ^ (r + 2 ^ j)) 1 = if rowF n t kn (r + 2 ^ j) then 1 else 0 := by
                rw [and64 tb _ htl, HET.out, tab_bit _ _ _ hml]
                split <;> rfl
              obtain ⟨m, hm⟩ : ∃ m, m = r + 2 ^ j := ⟨_, rfl⟩
              have HMM := hide hm
              rw [← hm] at hbm hml hmgt ⊢
              have hne : ((m : Int) == (r : Int)) = false := ne_beq (by omega)
              have hne2 : ((m : Int) != (r : Int)) = true := by simp; omega
              have HB0 := hide hb0
              clear hm hb0 hbit
              cases hR : rowF n t kn r with
              | false =>
                rw [hR] at hbr
                have HRC := hide (show riskC n t kn r j = false by unfold riskC; rw [hR]; simp)
                clear hR hbm
                go_wp2
                go_roundw
                case rel => exact ⟨j + 1, by omega, by go_num, by rw [riskRow_no HRC.out, ← HPS.out]; exact HO.out, HBX.out, HGR.out⟩
                case measure => simp [intOf]; omega
              | true =>
                rw [hR] at hbr
                cases hS : rowF n t kn m with
                | false =>
                  rw [hS] at hbm
                  have HRC := hide (show riskC n t kn r j = false by unfold riskC; rw [← HMM.out, hS]; simp)
                  clear hR hS
                  go_wp2
                  go_roundw
                  case rel => exact ⟨j + 1, by omega, by go_num, by rw [riskRow_no HRC.out, ← HPS.out]; exact HO.out, HBX.out, HGR.out⟩
                  case measure => simp [intOf]; omega
                | true =>
                  rw [hS] at hbm
                  have HRR := hide hR
                  have HSS := hide hS
                  clear hR hS
                  have HWR := hide (HW.out.keep HGR.out)
                  go_wp2_with fail
                  refine (changing_at n t _ _ _ _ r j kn _ HWR.out HFI.out (by omega) hkn hjlt).mono ?_
                  rintro e w2 ⟨rfl, g2⟩
                  have HG2 := hide (gr_none HGR.out g2)
                  have HO2 := hide (HO.out.keep g2)
                  have HBX2 := hide (HBX.out.keep0 g2)
                  obtain ⟨lv, hlv⟩ : ∃ lv, lv = leadsE ((bitsL r kn).set j 2) n t := ⟨_, rfl⟩
                  rw [← hlv]
                  have HLV := hide hlv
                  clear hlv g2 HWR HO HBX HGR q0 q1 q2 q3
                  by_cases hl2 : lv = 2
                  · subst hl2
                    have HRC := hide (show riskC n t kn r j = true by unfold riskC; rw [HB0.out, HRR.out, ← HMM.out, HSS.out, ← HLV.out]; rfl)
                    have hbs := HBX2.out.lt
                    go_wp2_with (at_builtin; refine wpList_append_pr _ rfl _ _ 34 rfl (w.heap.size + 1) Try.underlying34 Try.infoPair _ ps rfl (HO2.out.keep (gr_alloc (gr_refl _ _) _)) w2.heap.size (r, m) rfl (by go_simp) (by go_simp) (by omega) (by simp; omega) ?_)
                    intro ao3 cap3 w3 hO3 g3
                    have hown := HO2.out.keep (gr_alloc (gr_refl w2 none) (Obj.cells #[.int .i64 (r : Nat), .int .i64 (m : Nat)] 42))
                    have HG3 := hide (hown.gr (gr_alloc HG2.out _) g3 (by omega))
                    have HBX3 := hide ((HBX2.out.keep0 (gr_alloc (gr_refl w2 none) (Obj.cells #[.int .i64 (r : Nat), .int .i64 (m : Nat)] 42))).keepO g3 (hown.ne (by omega)))
                    have HO3 := hide hO3
                    clear hO3 g3 hown HO2 HBX2
                    go_wp2
                    go_roundw
                    case rel =>
                      refine ⟨j + 1, by omega, by go_num, ?_, HBX3.out, HG3.out⟩
                      rw [riskRow_yes HRC.out, ← List.append_assoc, ← HPS.out, ← HMM.out]
                      exact HO3.out
                    case measure => simp [intOf]; omega
                  · have hl2' := ne_beq hl2
                    have HRC := hide (show riskC n t kn r j = false by unfold riskC; rw [← HLV.out, hl2']; simp)
                    clear hl2
                    go_wp2
                    go_roundw
                    case rel => exact ⟨j + 1, by omega, by go_num, by rw [riskRow_no HRC.out, ← HPS.out]; exact HO2.out, HBX2.out, HG2.out⟩
                    case measure => simp [intOf]; omega
          · obtain rfl : j = kn := by omega
            go_wp2
            go_roundw
            case rel =>
              refine ⟨r + 1, by rw [← HM.out]; omega, by go_num, ?_, HBX.out, HGR.out⟩
              rw [risksL_succ, ← HPS.out]
              exact HO.out
            case measure => simp [intOf]; omega
      · obtain rfl : r = M := by omega
        go_wp2
        go_ret2
        refine .inr ⟨HC.out, _, rfl, ?_, HGR.out⟩
        rw [Int.toNat_natCast, ← HM.out]
        exact HO.out.read
  · have e := HT.out
    unfold tableE at e
    rw [if_neg hc] at e
    simp only [Prod.mk.injEq] at e
    obtain ⟨rfl, hx⟩ := e
    have hx0 : x ≠ 0 := by rw [hx]; exact hc
    have hx0' := ne_beq hx0
    have HX := hide hx
    have HXC := hide hc
    clear hx hc hx0
    go_wp2
    go_ret2
    exact .inl ⟨HXC.out, by rw [← HX.out]; rfl, G1.out⟩
end Go.Proofs.Ytidnhafllbckcaa
