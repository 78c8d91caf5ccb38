/- gates: Closed, Table. -/
import Derived.Test.YtidnhafllbckcaaGLeads
import Derived.Test.YtidnhafllbckcaaGInp
import Derived.Deep.RegionHeld3
import Derived.Deep.DeepCutAuto
namespace Go.Proofs.Ytidnhafllbckcaa
open Go.RowKit
set_option linter.unusedVariables false
set_option linter.unusedSimpArgs false

theorem boxKept {w wx : World} {cs : Array Value} {T : TypeId} (g : (w.alloc (Obj.cells cs T)).grownBy wx none) : BoxC wx w.heap.size cs := (boxNew w cs T).keep0 g

def smallB (xs : List Int) : Bool := xs.all fun v => v == 0 || v == 1 || v == 2
theorem small_iff (xs : List Int) : smallB xs = true ↔ Small xs := by
  unfold smallB Small
  simp [List.all_eq_true, or_assoc]

/-- Closed's answer. -/
def closedE (n : Nat) (t : Ex n) (xs : List Int) : Int × Int := if checkE n t xs.length = 0 then (if smallB xs = true then (leadsE xs n t, 0) else (0, 5)) else (0, checkE n t xs.length)

theorem check_zero {n : Nat} {t : Ex n} {k : Int} (h : checkE n t k = 0) : 0 ≤ k ∧ k ≤ 6 ∧ FineE k n t := by
  unfold checkE at h
  split at h
  · simp at h
  · rename_i h1
    exact ⟨by omega, by omega, fine_of _ _ _ _ h⟩

def CloR (w : World) (xs : List Int) (iv : Value) (wr : World) : Prop :=
  ∃ i : Nat, i ≤ xs.length ∧ iv = .int .i64 (i : Nat) ∧ (∀ j (h : j < xs.length), j < i → xs[j] = 0 ∨ xs[j] = 1 ∨ xs[j] = 2) ∧ wr = w

set_option maxHeartbeats 4000000 in
set_option maxRecDepth 10000 in
theorem closed_at (n : Nat) (t : Ex n) (c0 c1 c2 c3 xv : Value) (xs : List Int) (w : World) (hw : WayC w n c0 c1 c2 c3 t) (hx : IntR w xv xs) :
    Calls Try.prog 11 #[.agg #[c0, c1, c2, c3], xv] w fun e w' => e = .returned (.tuple #[.int .i64 (closedE n t xs).1, .int .i64 (closedE n t xs).2]) ∧ w.grownBy w' none := by
  have HW := hide hw
  have HX := hide hx
  obtain ⟨kd, i, b, ao, len, cap, rfl, rfl, rfl, rfl⟩ := hw.cells
  obtain ⟨xo, xc, rfl, hx1, hx2, hx3⟩ := hx
  have HX3 := hide hx3
  unfold maxLen at hx2
  clear hw hx3
  obtain ⟨R, hR⟩ : ∃ R, R = closedE n t xs := ⟨_, rfl⟩
  rw [← hR]
  have HR := hide hR
  clear hR
  have gA : Hid (w.grownBy (w.alloc (Obj.cells #[.int .i64 kd, .int .i64 i, .bool b, .slice ao len cap] 24)) none) := gr_alloc (gr_refl _ _) _
  go_enter Try.func11, Try.ntmps11
  go_wp2_with fail
  refine (check_at xs.length n t _ _ _ _ _ (HW.out.keep gA.out)).mono ?_
  rintro e w1 ⟨rfl, g1⟩
  have G1 := hide (gr_none gA.out g1)
  have b1 := boxKept g1
  have B1 := hide b1
  obtain ⟨r0, r1, r2, r3⟩ := b1.c4
  obtain ⟨x, hx⟩ : ∃ x, x = checkE n t xs.length := ⟨_, rfl⟩
  rw [← hx]
  have HC := hide hx
  clear g1 hx b1
  by_cases hz : x = 0
  · subst hz
    have hR2 := HR.out
    unfold closedE at hR2
    rw [← HC.out, if_pos rfl] at hR2
    have HR2 := hide hR2
    clear hR2
    obtain ⟨hk0, hk6, hfine⟩ := check_zero HC.out.symm
    have HFI := hide hfine
    clear hfine
    go_wp2_with fail
    go_loopw [18] (fun iv wr => Hid (CloR w1 xs iv wr)) (fun iv _ => xs.length - (intOf iv).toNat)
    case atStart => exact ⟨0, by omega, rfl, fun j h h0 => by omega, rfl⟩
    case round =>
      obtain ⟨j, hj, rfl, hs, rfl⟩ := hrel.out
      have HS := hide hs
      clear hs hrel
      by_cases hlt : j < xs.length
      · obtain ⟨gb, off, rfl, hgb, hcell⟩ := HX3.out j hlt
        have q := gr_cell G1.out hcell
        obtain ⟨v, hv⟩ : ∃ v, v = xs[j] := ⟨_, rfl⟩
        rw [← hv] at q
        have HV := hide hv
        clear hcell hv
        by_cases v0 : v = 0
        · subst v0
          go_wp2
          go_roundw
          case rel =>
            refine ⟨j + 1, by omega, by go_num, fun i h h2 => ?_, rfl⟩
            by_cases e : i = j
            · subst e; exact .inl HV.out.symm
            · exact HS.out i h (by omega)
          case measure => simp [intOf]; omega
        · have v0' := ne_beq v0
          by_cases v1 : v = 1
          · subst v1
            go_wp2
            go_roundw
            case rel =>
              refine ⟨j + 1, by omega, by go_num, fun i h h2 => ?_, rfl⟩
              by_cases e : i = j
              · subst e; exact .inr (.inl HV.out.symm)
              · exact HS.out i h (by omega)
            case measure => simp [intOf]; omega
          · have v1' := ne_beq v1
            by_cases v2 : v = 2
            · subst v2
              go_wp2
              go_roundw
              case rel =>
                refine ⟨j + 1, by omega, by go_num, fun i h h2 => ?_, rfl⟩
                by_cases e : i = j
                · subst e; exact .inr (.inr HV.out.symm)
                · exact HS.out i h (by omega)
              case measure => simp [intOf]; omega
            · have v2' := ne_beq v2
              have e : R = (0, 5) := by
                rw [HR2.out, if_neg]
                rw [small_iff]
                intro hsm
                have := hsm _ (List.getElem_mem hlt)
                rw [← HV.out] at this
                omega
              subst e
              have v0n : (v != 0) = true := by simp [v0]
              have v1n : (v != 1) = true := by simp [v1]
              have v2n : (v != 2) = true := by simp [v2]
              clear v0 v1 v2 v0' v1' v2'
              go_wp2
              go_ret2
              exact ⟨rfl, G1.out⟩
      · obtain rfl : j = xs.length := by omega
        have hsm : Small xs := by
          intro v hv
          obtain ⟨i, hi, rfl⟩ := List.getElem_of_mem hv
          exact HS.out i hi hi
        have e : R = (leadsE xs n t, 0) := by rw [HR2.out, if_pos ((small_iff xs).2 hsm)]
        subst e
        have HSM := hide hsm
        clear hsm
        go_wp2_with fail
        refine (leads_at xs HSM.out n t _ _ _ _ _ _ (HW.out.keep G1.out) (HX.out.keep G1.out) HFI.out).mono ?_
        rintro e w2 ⟨rfl, g2⟩
        have G2 := hide (gr_none G1.out g2)
        clear g2
        go_wp2
        go_ret2
        exact ⟨rfl, G2.out⟩
  · have hz' := ne_beq hz
    have e : R = (0, x) := by
      rw [HR.out]
      unfold closedE
      rw [← HC.out, if_neg hz]
    subst e
    clear hz
    go_wp2
    go_ret2
    exact ⟨rfl, G1.out⟩

theorem bits_small (r k : Nat) : Small (bitsL r k) := by
  intro v hv
  obtain ⟨j, _, rfl⟩ := List.mem_map.1 hv
  have : r / 2 ^ j % 2 = 0 ∨ r / 2 ^ j % 2 = 1 := by omega
  rcases this with h | h <;> simp [h]

/-- A table's rows, each with its bit. -/
def tabN (f : Nat → Bool) : Nat → Nat
  | 0 => 0
  | m + 1 => tabN f m + if f m then 2 ^ m else 0

theorem tabN_lt (f : Nat → Bool) : ∀ m, tabN f m < 2 ^ m
  | 0 => by simp [tabN]
  | m + 1 => by
    have := tabN_lt f m
    unfold tabN
    rw [Nat.pow_succ]
    split <;> omega

theorem pow64 (j : Nat) (hj : j < 64) : (2 : Nat) ^ j < 18446744073709551616 := by
  have := Nat.pow_lt_pow_right (show 1 < 2 by decide) hj
  simpa using this

theorem wrapU (j : Nat) (hj : j < 64) : IntKind.u64.wrap (2 ^ j) = ((2 ^ j : Nat) : Int) := by
  have h := pow64 j hj
  have e : ((2 : Int) ^ j) = ((2 ^ j : Nat) : Int) := by simp
  rw [e]
  generalize 2 ^ j = p at h ⊢
  rw [IntWalk.u64_in _ ⟨by omega, by omega⟩]

theorem or_bit (x j : Nat) (hj : j < 64) (hx : x < 2 ^ j) : bits .or .u64 (x : Int) (IntKind.u64.wrap (2 ^ j)) = ((x + 2 ^ j : Nat) : Int) := by
  have h := pow64 j hj
  rw [wrapU j hj, u64_or_nat _ _ (by omega) h, Nat.or_comm, Nat.add_comm]
  have := Nat.two_pow_add_eq_or_of_lt hx 1
  rw [Nat.mul_one] at this
  rw [this]

/-- Does it lead for the row's bits? -/
def rowF (n : Nat) (t : Ex n) (k : Nat) (r : Nat) : Bool := leadsE (bitsL r k) n t == 1

/-- Table's answer. -/
def tableE (n : Nat) (t : Ex n) (k : Int) : Nat × Int := if checkE n t k = 0 then (tabN (rowF n t k.toNat) (2 ^ k.toNat), 0) else (0, checkE n t k)

def TabR (w : World) (n : Nat) (t : Ex n) (k : Nat) (ov iv : Value) (wr : World) : Prop :=
  ∃ i : Nat, i ≤ 2 ^ k ∧ iv = .int .i64 (i : Nat) ∧ ov = .int .u64 (tabN (rowF n t k) i : Nat) ∧ w.grownBy wr none

set_option maxHeartbeats 4000000 in
set_option maxRecDepth 10000 in
theorem table_at (n : Nat) (t : Ex n) (c0 c1 c2 c3 : Value) (k : Int) (w : World) (hw : WayC w n c0 c1 c2 c3 t) :
    Calls Try.prog 7 #[.agg #[c0, c1, c2, c3], .int .i64 k] w fun e w' => e = .returned (.tuple #[.int .u64 ((tableE n t k).1 : Nat), .int .i64 (tableE n t k).2]) ∧ w.grownBy w' none := by
  have HW := hide hw
  obtain ⟨kd, i, b, ao, len, cap, rfl, rfl, rfl, rfl⟩ := hw.cells
  clear hw
  obtain ⟨R, hR⟩ : ∃ R, R = tableE n t k := ⟨_, rfl⟩
  rw [← hR]
  have HR := hide hR
  clear hR
  have gA : Hid (w.grownBy (w.alloc (Obj.cells #[.int .i64 kd, .int .i64 i, .bool b, .slice ao len cap] 24)) none) := gr_alloc (gr_refl _ _) _
  go_enter Try.func7, Try.ntmps7
  go_wp2_with fail
  refine (check_at k n t _ _ _ _ _ (HW.out.keep gA.out)).mono ?_
  rintro e w1 ⟨rfl, g1⟩
  have G1 := hide (gr_none gA.out g1)
  have b1 := boxKept g1
  have B1 := hide b1
  obtain ⟨x, hx⟩ : ∃ x, x = checkE n t k := ⟨_, rfl⟩
  rw [← hx]
  have HC := hide hx
  clear g1 hx b1
  by_cases hz : x = 0
  · subst hz
    obtain ⟨hk0, hk6, hfine⟩ := check_zero HC.out.symm
    obtain ⟨kn, rfl⟩ : ∃ kn : Nat, k = kn := ⟨k.toNat, by omega⟩
    have HFI := hide hfine
    have hkn : kn ≤ 6 := by omega
    have hp6 : 2 ^ kn ≤ 64 := by
      have := Nat.pow_le_pow_right (show 0 < 2 by decide) hkn
      omega
    obtain ⟨M, hM⟩ : ∃ M, M = 2 ^ kn := ⟨_, rfl⟩
    have hsh : wrap64 (2 ^ kn) = (M : Int) := by
      rw [hM]
      have e : ((2 : Int) ^ kn) = ((2 ^ kn : Nat) : Int) := by simp
      rw [e]
      unfold wrap64
      omega
    rw [← hM] at hp6
    have HM := hide hM
    have e : R = (tabN (rowF n t kn) M, 0) := by
      rw [HR.out]
      unfold tableE
      rw [← HC.out, if_pos rfl, Int.toNat_natCast, ← hM]
    subst e
    clear hfine hM
    go_wp2_with fail
    rw [hsh]
    clear hsh
    go_loopw [7, 17] (fun ov iv wr => Hid (TabR w1 n t kn ov iv wr)) (fun _ iv _ => M - (intOf iv).toNat)
    case atStart => exact ⟨0, Nat.zero_le _, rfl, rfl, gr_refl _ _⟩
    case round =>
      obtain ⟨j, hj, rfl, rfl, hgr⟩ := hrel.out
      rw [← HM.out] at hj
      have HGR := hide hgr
      clear hgr hrel
      by_cases hlt : j < M
      · obtain ⟨q0, q1, q2, q3⟩ := (B1.out.keep0 HGR.out).c4
        have BX : Hid (∀ wx, wr.grownBy wx none → BoxC wx w.heap.size #[.int .i64 kd, .int .i64 i, .bool b, .slice ao len cap]) := fun wx hg => (B1.out.keep0 HGR.out).keep0 hg
        have HWR := hide (HW.out.keep (gr_none G1.out HGR.out))
        have GG : wr.grownBy wr none := gr_refl _ _
        go_upto_region 8 with fail
        go_region_held3 (fun w' => w'.cell? ⟨w.heap.size, 0, none⟩ = some (.int .i64 kd) ∧ w'.cell? ⟨w.heap.size, 1, none⟩ = some (.int .i64 i) ∧ w'.cell? ⟨w.heap.size, 2, none⟩ = some (.bool b) ∧ w'.cell? ⟨w.heap.size, 3, none⟩ = some (.slice ao len cap)) (go_keep)
          (first | (go_at_call 19; refine (inputs_at j kn _ (by omega) hkn).mono ?_; rintro e wa ⟨rfl, ha, ga⟩; have HA := hide ha; have GG : wr.grownBy wa none := gr_none (by first | exact gr_none GG (gr_drewN (gr_refl _ _) _) | exact gr_none GG (gr_drew (gr_refl _ _)) | exact GG) ga; obtain ⟨z0, z1, z2, z3⟩ := (BX.out wa GG).c4) | (go_at_call 18; refine (leads_at (bitsL j kn) (bits_small j kn) n t _ _ _ _ _ _ (HWR.out.keep GG) ((HA.out.row kn (bitsL_length j kn).symm (by omega)).keep (gr_refl _ _)) (by rw [bitsL_length]; exact HFI.out)).mono ?_; rintro e wb ⟨rfl, gb⟩; have GG : wr.grownBy wb none := gr_none GG gb; obtain ⟨y0, y1, y2, y3⟩ := (BX.out wb GG).c4))
        all_goals
          have GX := hide (gr_none HGR.out GG)
          clear GG
          cases hrow : (leadsE (bitsL j kn) n t == 1) with
          | false =>
            have HROW := hide hrow
            clear hrow
            go_wp2
            go_roundw
            case rel =>
              refine ⟨j + 1, by rw [← HM.out]; omega, by go_num, ?_, GX.out⟩
              rw [tabN, show rowF n t kn j = false from HROW.out]
              simp
            case measure => simp [intOf]; omega
          | true =>
            have HROW := hide hrow
            clear hrow
            go_wp2
            go_roundw
            case rel =>
              refine ⟨j + 1, by rw [← HM.out]; omega, by go_num, ?_, GX.out⟩
              rw [or_bit _ _ (by omega) (tabN_lt _ _), tabN, show rowF n t kn j = true from HROW.out, if_pos rfl]
            case measure => simp [intOf]; omega
      · obtain rfl : j = M := by omega
        go_wp2
        go_ret2
        exact ⟨rfl, gr_none G1.out HGR.out⟩
  · have hz' := ne_beq hz
    have e : R = (0, x) := by
      rw [HR.out]
      unfold tableE
      rw [← HC.out, if_neg hz]
    subst e
    clear hz
    go_wp2
    go_ret2
    exact ⟨rfl, G1.out⟩
end Go.Proofs.Ytidnhafllbckcaa
