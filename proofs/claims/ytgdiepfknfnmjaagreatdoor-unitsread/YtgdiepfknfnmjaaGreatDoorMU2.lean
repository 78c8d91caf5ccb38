/- units: readUnit. -/
import Derived.Test.YtgdiepfknfnmjaaGreatDoorMBase
import Derived.Deep.MidRow
import Derived.Lib.DecodeN
import Derived.Shelf.Unicode.DecodeAny
import Derived.Test.YtgdiepfknfnmjaaGreatDoorMFd
import Derived.Test.YtgdiepfknfnmjaaGreatDoorMFc
namespace Go.Proofs.YtgdiepfknfnmjaaGreatDoor
open Go.RowKit
set_option linter.unusedVariables false

/-- The unit that a text is, as it is told. -/
def unitR (l : List UInt8) : Option (List UInt8) :=
  if l = [] ∨ l = [206, 169] ∨ l = [70] ∨ l = [72] ∨ l = [86] ∨ l = [65] ∨ l = [83] ∨ l = [87] ∨ l = [115] ∨ l = [72, 122] then some l
  else if l = [226, 132, 166] then some [206, 169] else none

/-- What readUnit answers. -/
def UnitE (l : List UInt8) : Ending := match unitR l with
  | some u => .returned (.tuple #[.string ⟨u.toArray⟩, .bool true])
  | none => .returned (.tuple #[.string ⟨#[]⟩, .bool false])

theorem bytes_ne {s : ByteArray} {l : List UInt8} (h : s.data.toList ≠ l) : ¬ s = ⟨l.toArray⟩ := by
  intro e
  apply h
  rw [e]

theorem bytes_eq {s : ByteArray} {l : List UInt8} (h : s.data.toList = l) : s = ⟨l.toArray⟩ := by
  cases s with
  | mk d =>
    cases d with
    | mk m => simp at h; rw [h]

theorem beq_no {s : ByteArray} {l : List UInt8} (h : ¬ s.data.toList = l) : (s.toList == l) = false := by
  rw [ByteArray.toList_eq, beq_eq_false_iff_ne]
  exact h

theorem isEmpty_no {s : ByteArray} (h : ¬ s.data.toList = []) : s.toList.isEmpty = false := by
  rw [ByteArray.toList_eq]
  cases hl : s.data.toList with
  | nil => exact absurd hl h
  | cons a b => rfl

set_option maxHeartbeats 4000000 in
theorem readUnit_at (s : ByteArray) (w : World) :
    Calls Tryz.prog 29 #[.string s] w fun e w' => e = UnitE s.data.toList ∧ w' = w := by
  by_cases h0 : s.data.toList = []
  · have := bytes_eq h0
    subst this
    clear h0
    go_enter Tryz.func29, Tryz.ntmps29
    go_wp2
    go_ret2
    exact ⟨rfl, rfl⟩
  by_cases h1 : s.data.toList = [206, 169]
  · have := bytes_eq h1
    subst this
    clear h0 h1
    go_enter Tryz.func29, Tryz.ntmps29
    go_wp2
    go_ret2
    exact ⟨rfl, rfl⟩
  by_cases h2 : s.data.toList = [70]
  · have := bytes_eq h2
    subst this
    clear h0 h1 h2
    go_enter Tryz.func29, Tryz.ntmps29
    go_wp2
    go_ret2
    exact ⟨rfl, rfl⟩
  by_cases h3 : s.data.toList = [72]
  · have := bytes_eq h3
    subst this
    clear h0 h1 h2 h3
    go_enter Tryz.func29, Tryz.ntmps29
    go_wp2
    go_ret2
    exact ⟨rfl, rfl⟩
  by_cases h4 : s.data.toList = [86]
  · have := bytes_eq h4
    subst this
    clear h0 h1 h2 h3 h4
    go_enter Tryz.func29, Tryz.ntmps29
    go_wp2
    go_ret2
    exact ⟨rfl, rfl⟩
  by_cases h5 : s.data.toList = [65]
  · have := bytes_eq h5
    subst this
    clear h0 h1 h2 h3 h4 h5
    go_enter Tryz.func29, Tryz.ntmps29
    go_wp2
    go_ret2
    exact ⟨rfl, rfl⟩
  by_cases h6 : s.data.toList = [83]
  · have := bytes_eq h6
    subst this
    clear h0 h1 h2 h3 h4 h5 h6
    go_enter Tryz.func29, Tryz.ntmps29
    go_wp2
    go_ret2
    exact ⟨rfl, rfl⟩
  by_cases h7 : s.data.toList = [87]
  · have := bytes_eq h7
    subst this
    clear h0 h1 h2 h3 h4 h5 h6 h7
    go_enter Tryz.func29, Tryz.ntmps29
    go_wp2
    go_ret2
    exact ⟨rfl, rfl⟩
  by_cases h8 : s.data.toList = [115]
  · have := bytes_eq h8
    subst this
    clear h0 h1 h2 h3 h4 h5 h6 h7 h8
    go_enter Tryz.func29, Tryz.ntmps29
    go_wp2
    go_ret2
    exact ⟨rfl, rfl⟩
  by_cases h9 : s.data.toList = [72, 122]
  · have := bytes_eq h9
    subst this
    clear h0 h1 h2 h3 h4 h5 h6 h7 h8 h9
    go_enter Tryz.func29, Tryz.ntmps29
    go_wp2
    go_ret2
    exact ⟨rfl, rfl⟩
  by_cases h10 : s.data.toList = [226, 132, 166]
  · have := bytes_eq h10
    subst this
    clear h0 h1 h2 h3 h4 h5 h6 h7 h8 h9 h10
    go_enter Tryz.func29, Tryz.ntmps29
    go_wp2
    go_ret2
    exact ⟨rfl, rfl⟩
  have e0 := isEmpty_no h0
  have e1 := beq_no h1
  have e2 := beq_no h2
  have e3 := beq_no h3
  have e4 := beq_no h4
  have e5 := beq_no h5
  have e6 := beq_no h6
  have e7 := beq_no h7
  have e8 := beq_no h8
  have e9 := beq_no h9
  have e10 := beq_no h10
  have HU : Hid (unitR s.data.toList = none) := by
    show _ = _
    simp [unitR, h0, h1, h2, h3, h4, h5, h6, h7, h8, h9, h10]
  clear h0 h1 h2 h3 h4 h5 h6 h7 h8 h9 h10
  go_enter Tryz.func29, Tryz.ntmps29
  go_wp2
  go_ret2
  refine ⟨?_, rfl⟩
  unfold UnitE
  rw [HU.out]
  rfl
end Go.Proofs.YtgdiepfknfnmjaaGreatDoor

namespace Go.Proofs.YtgdiepfknfnmjaaGreatDoor
open Go.RowKit
set_option linter.unusedVariables false
set_option linter.unusedSimpArgs false

/-- The table of prefixes, as it is laid. -/
def prefL : List Value := [.int .i32 84, .int .i64 12, .int .i32 71, .int .i64 9, .int .i32 77, .int .i64 6, .int .i32 107, .int .i64 3, .int .i32 (-1), .int .i64 0, .int .i32 109, .int .i64 (-3), .int .i32 181, .int .i64 (-6), .int .i32 110, .int .i64 (-9), .int .i32 112, .int .i64 (-12), .int .i32 102, .int .i64 (-15)]
def PrefTab (w : World) : Prop := w.rangeAt 2 0 prefL

theorem PrefTab.keep0 {w w' : World} (h : PrefTab w) (hg : w.grownBy w' none) : PrefTab w' := fun i v hv => hg.cell (h i v hv) (by simp)

theorem pref_size : (Tryz.prog.info? 103).map (·.size) = some prefL.length := by kernel_rfl

/-- The power that a letter stands for. -/
def prefR (c : Int) : Option Int :=
  if c = 84 then some 12 else if c = 71 then some 9 else if c = 77 then some 6 else if c = 107 then some 3 else if c = 109 then some (-3) else if c = 181 ∨ c = 117 ∨ c = 956 then some (-6) else if c = 110 then some (-9) else if c = 112 then some (-12) else if c = 102 then some (-15) else none

def PrefE (c : Int) : Ending := match prefR c with
  | some p => .returned (.tuple #[.int .i64 p, .bool true])
  | none => .returned (.tuple #[.int .i64 0, .bool false])

/-- The table's letters and powers. -/
def ltr (i : Nat) : Int := [84, 71, 77, 107, -1, 109, 181, 110, 112, 102].getD i 0
def pwr (i : Nat) : Int := [12, 9, 6, 3, 0, -3, -6, -9, -12, -15].getD i 0

theorem pref_ix0 (W : World) : (Instr.index 103 (.agg prefL.toArray) (.int .i64 0)).run Tryz.prog W = .ok (.agg #[.int .i32 (ltr 0), .int .i64 (pwr 0)]) W := by kernel_rfl
theorem pref_ix1 (W : World) : (Instr.index 103 (.agg prefL.toArray) (.int .i64 1)).run Tryz.prog W = .ok (.agg #[.int .i32 (ltr 1), .int .i64 (pwr 1)]) W := by kernel_rfl
theorem pref_ix2 (W : World) : (Instr.index 103 (.agg prefL.toArray) (.int .i64 2)).run Tryz.prog W = .ok (.agg #[.int .i32 (ltr 2), .int .i64 (pwr 2)]) W := by kernel_rfl
theorem pref_ix3 (W : World) : (Instr.index 103 (.agg prefL.toArray) (.int .i64 3)).run Tryz.prog W = .ok (.agg #[.int .i32 (ltr 3), .int .i64 (pwr 3)]) W := by kernel_rfl
theorem pref_ix4 (W : World) : (Instr.index 103 (.agg prefL.toArray) (.int .i64 4)).run Tryz.prog W = .ok (.agg #[.int .i32 (ltr 4), .int .i64 (pwr 4)]) W := by kernel_rfl
theorem pref_ix5 (W : World) : (Instr.index 103 (.agg prefL.toArray) (.int .i64 5)).run Tryz.prog W = .ok (.agg #[.int .i32 (ltr 5), .int .i64 (pwr 5)]) W := by kernel_rfl
theorem pref_ix6 (W : World) : (Instr.index 103 (.agg prefL.toArray) (.int .i64 6)).run Tryz.prog W = .ok (.agg #[.int .i32 (ltr 6), .int .i64 (pwr 6)]) W := by kernel_rfl
theorem pref_ix7 (W : World) : (Instr.index 103 (.agg prefL.toArray) (.int .i64 7)).run Tryz.prog W = .ok (.agg #[.int .i32 (ltr 7), .int .i64 (pwr 7)]) W := by kernel_rfl
theorem pref_ix8 (W : World) : (Instr.index 103 (.agg prefL.toArray) (.int .i64 8)).run Tryz.prog W = .ok (.agg #[.int .i32 (ltr 8), .int .i64 (pwr 8)]) W := by kernel_rfl
theorem pref_ix9 (W : World) : (Instr.index 103 (.agg prefL.toArray) (.int .i64 9)).run Tryz.prog W = .ok (.agg #[.int .i32 (ltr 9), .int .i64 (pwr 9)]) W := by kernel_rfl
theorem pref_ix (i : Nat) (hi : i < 10) (W : World) : (Instr.index 103 (.agg prefL.toArray) (.int .i64 (i : Int))).run Tryz.prog W = .ok (.agg #[.int .i32 (ltr i), .int .i64 (pwr i)]) W := by
  match i, hi with
  | 0, _ => exact pref_ix0 W
  | 1, _ => exact pref_ix1 W
  | 2, _ => exact pref_ix2 W
  | 3, _ => exact pref_ix3 W
  | 4, _ => exact pref_ix4 W
  | 5, _ => exact pref_ix5 W
  | 6, _ => exact pref_ix6 W
  | 7, _ => exact pref_ix7 W
  | 8, _ => exact pref_ix8 W
  | 9, _ => exact pref_ix9 W

theorem ltr_none (c : Int) (hc : 0 ≤ c) (h : ∀ j, j < 10 → ltr j ≠ c) (h1 : c ≠ 117) (h2 : c ≠ 956) : prefR c = none := by
  have a0 : c ≠ 84 := fun e => h 0 (by decide) (by rw [e]; rfl)
  have a1 : c ≠ 71 := fun e => h 1 (by decide) (by rw [e]; rfl)
  have a2 : c ≠ 77 := fun e => h 2 (by decide) (by rw [e]; rfl)
  have a3 : c ≠ 107 := fun e => h 3 (by decide) (by rw [e]; rfl)
  have a4 : c ≠ -1 := fun e => h 4 (by decide) (by rw [e]; rfl)
  have a5 : c ≠ 109 := fun e => h 5 (by decide) (by rw [e]; rfl)
  have a6 : c ≠ 181 := fun e => h 6 (by decide) (by rw [e]; rfl)
  have a7 : c ≠ 110 := fun e => h 7 (by decide) (by rw [e]; rfl)
  have a8 : c ≠ 112 := fun e => h 8 (by decide) (by rw [e]; rfl)
  have a9 : c ≠ 102 := fun e => h 9 (by decide) (by rw [e]; rfl)
  unfold prefR
  simp [h1, h2, a0, a1, a2, a3, a4, a5, a6, a7, a8, a9]

theorem ltr_some (c : Int) (hc : 0 ≤ c) (i : Nat) (hi : i < 10) (h : ltr i = c) : prefR c = some (pwr i) := by
  subst h
  match i, hi with
  | 0, _ => rfl
  | 1, _ => rfl
  | 2, _ => rfl
  | 3, _ => rfl
  | 4, _ => exact absurd hc (by decide)
  | 5, _ => rfl
  | 6, _ => rfl
  | 7, _ => rfl
  | 8, _ => rfl
  | 9, _ => rfl

set_option maxHeartbeats 4000000 in
set_option maxRecDepth 10000 in
theorem readPrefix_plain (c : Int) (w : World) (hT : PrefTab w) (hc : 0 ≤ c) (hc2 : c ≤ 2147483647) (h1 : c ≠ 117) (h2 : c ≠ 956) :
    Calls Tryz.prog 55 #[.int .i32 c] w fun e w' => e = PrefE c ∧ w.grownBy w' none := by
  have HT := hide hT
  obtain ⟨AG, hAG⟩ : ∃ AG, AG = prefL.toArray := ⟨_, rfl⟩
  have HAG := hide hAG
  have IX0 : ∀ i, i < 10 → ∀ W, (Instr.index 103 (.agg AG) (.int .i64 ((i : Nat) : Int))).run Tryz.prog W = .ok (.agg #[.int .i32 (ltr i), .int .i64 (pwr i)]) W := by rw [hAG]; exact pref_ix
  clear hT hAG
  have IX := hide IX0
  clear IX0
  have H1 := hide h1
  have H2 := hide h2
  have f1 : (c == (117 : Int)) = false := beq_eq_false_iff_ne.2 h1
  have f2 : (c == (956 : Int)) = false := beq_eq_false_iff_ne.2 h2
  clear h1 h2
  go_enter Tryz.func55, Tryz.ntmps55
  go_wp2_with (refine wpList_load_mid rfl 103 _ rfl 2 0 rfl prefL _ HT.out Tryz.underlying103 rfl pref_size ?_; rw [← HAG.out])
  go_wp2
  clear HT HAG
  go_loopw [13] (fun v wr => ∃ i : Nat, i ≤ 10 ∧ v = .int .i64 (i : Int) ∧ Hid (w.grownBy wr none ∧ ∀ j, j < i → ltr j ≠ c)) (fun v _ => 10 - (intOf v).toNat)
  case atStart => exact ⟨0, by omega, rfl, gr_refl _ _, fun j hj => by omega⟩
  case round =>
    obtain ⟨i, hi, rfl, HR⟩ := hrel
    by_cases hlt : i < 10
    · have hix := IX.out i hlt
      obtain ⟨a, ha⟩ : ∃ a, a = ltr i := ⟨_, rfl⟩
      obtain ⟨p, hp⟩ : ∃ p, p = pwr i := ⟨_, rfl⟩
      rw [← ha, ← hp] at hix
      have HA := hide ha
      have HP := hide hp
      clear ha hp
      by_cases hm : a = c
      · have HM := hide hm
        have hm1 : (a == c) = true := by rw [hm]; simp
        clear hm
        go_wp2
        go_ret2
        refine ⟨?_, gr_alloc HR.out.1 _⟩
        unfold PrefE
        rw [ltr_some c hc i hlt (by rw [← HA.out]; exact HM.out), ← HP.out]
        rfl
      · have hm1 : (a == c) = false := beq_eq_false_iff_ne.2 hm
        have HM := hide hm
        clear hm
        go_wp2
        go_roundw
        case rel =>
          refine ⟨i + 1, by omega, by go_num, gr_alloc HR.out.1 _, fun j hj => ?_⟩
          by_cases e : j = i
          · subst e
            rw [← HA.out]
            exact HM.out
          · exact HR.out.2 j (by omega)
        case measure => simp [intOf]; omega
    · obtain rfl : i = 10 := by omega
      go_wp2
      go_ret2
      refine ⟨?_, HR.out.1⟩
      unfold PrefE
      rw [ltr_none c hc HR.out.2 H1.out H2.out]
      rfl

set_option maxHeartbeats 4000000 in
set_option maxRecDepth 10000 in
theorem readPrefix_u (w : World) (hT : PrefTab w) :
    Calls Tryz.prog 55 #[.int .i32 117] w fun e w' => e = PrefE 117 ∧ w.grownBy w' none := by
  have HT := hide hT
  obtain ⟨AG, hAG⟩ : ∃ AG, AG = prefL.toArray := ⟨_, rfl⟩
  have HAG := hide hAG
  have IX0 : ∀ i, i < 10 → ∀ W, (Instr.index 103 (.agg AG) (.int .i64 ((i : Nat) : Int))).run Tryz.prog W = .ok (.agg #[.int .i32 (ltr i), .int .i64 (pwr i)]) W := by rw [hAG]; exact pref_ix
  clear hT hAG
  have IX := hide IX0
  clear IX0
  go_enter Tryz.func55, Tryz.ntmps55
  go_wp2_with (refine wpList_load_mid rfl 103 _ rfl 2 0 rfl prefL _ HT.out Tryz.underlying103 rfl pref_size ?_; rw [← HAG.out])
  go_wp2
  clear HT HAG
  go_loopw [13] (fun v wr => ∃ i : Nat, i ≤ 10 ∧ v = .int .i64 (i : Int) ∧ Hid (w.grownBy wr none ∧ ∀ j, j < i → ltr j ≠ 181)) (fun v _ => 10 - (intOf v).toNat)
  case atStart => exact ⟨0, by omega, rfl, gr_refl _ _, fun j hj => by omega⟩
  case round =>
    obtain ⟨i, hi, rfl, HR⟩ := hrel
    by_cases hlt : i < 10
    · have hix := IX.out i hlt
      obtain ⟨a, ha⟩ : ∃ a, a = ltr i := ⟨_, rfl⟩
      obtain ⟨p, hp⟩ : ∃ p, p = pwr i := ⟨_, rfl⟩
      rw [← ha, ← hp] at hix
      have HA := hide ha
      have HP := hide hp
      clear ha hp
      by_cases hm : a = 181
      · have hm1 : (a == 181) = true := by rw [hm]; rfl
        have HA : Hid ((181 : Int) = ltr i) := by rw [← HA.out]; exact hm.symm
        clear hm
        go_wp2
        go_ret2
        refine ⟨?_, gr_alloc HR.out.1 _⟩
        unfold PrefE
        have : pwr i = -6 := by
          have h := HA.out
          match i, hlt, h with
          | 0, _, h => exact absurd h (by decide)
          | 1, _, h => exact absurd h (by decide)
          | 2, _, h => exact absurd h (by decide)
          | 3, _, h => exact absurd h (by decide)
          | 4, _, h => exact absurd h (by decide)
          | 5, _, h => exact absurd h (by decide)
          | 6, _, h => rfl
          | 7, _, h => exact absurd h (by decide)
          | 8, _, h => exact absurd h (by decide)
          | 9, _, h => exact absurd h (by decide)
        rw [HP.out, this]
        rfl
      · have hm1 : (a == 181) = false := beq_eq_false_iff_ne.2 hm
        have HM := hide hm
        clear hm
        go_wp2
        go_roundw
        case rel =>
          refine ⟨i + 1, by omega, by go_num, gr_alloc HR.out.1 _, fun j hj => ?_⟩
          by_cases e : j = i
          · subst e
            rw [← HA.out]
            exact HM.out
          · exact HR.out.2 j (by omega)
        case measure => simp [intOf]; omega
    · obtain rfl : i = 10 := by omega
      go_wp2
      go_ret2
      refine ⟨?_, HR.out.1⟩
      exact absurd rfl (HR.out.2 6 (by decide))

set_option maxHeartbeats 4000000 in
set_option maxRecDepth 10000 in
theorem readPrefix_mu (w : World) (hT : PrefTab w) :
    Calls Tryz.prog 55 #[.int .i32 956] w fun e w' => e = PrefE 956 ∧ w.grownBy w' none := by
  have HT := hide hT
  obtain ⟨AG, hAG⟩ : ∃ AG, AG = prefL.toArray := ⟨_, rfl⟩
  have HAG := hide hAG
  have IX0 : ∀ i, i < 10 → ∀ W, (Instr.index 103 (.agg AG) (.int .i64 ((i : Nat) : Int))).run Tryz.prog W = .ok (.agg #[.int .i32 (ltr i), .int .i64 (pwr i)]) W := by rw [hAG]; exact pref_ix
  clear hT hAG
  have IX := hide IX0
  clear IX0
  go_enter Tryz.func55, Tryz.ntmps55
  go_wp2_with (refine wpList_load_mid rfl 103 _ rfl 2 0 rfl prefL _ HT.out Tryz.underlying103 rfl pref_size ?_; rw [← HAG.out])
  go_wp2
  clear HT HAG
  go_loopw [13] (fun v wr => ∃ i : Nat, i ≤ 10 ∧ v = .int .i64 (i : Int) ∧ Hid (w.grownBy wr none ∧ ∀ j, j < i → ltr j ≠ 181)) (fun v _ => 10 - (intOf v).toNat)
  case atStart => exact ⟨0, by omega, rfl, gr_refl _ _, fun j hj => by omega⟩
  case round =>
    obtain ⟨i, hi, rfl, HR⟩ := hrel
    by_cases hlt : i < 10
    · have hix := IX.out i hlt
      obtain ⟨a, ha⟩ : ∃ a, a = ltr i := ⟨_, rfl⟩
      obtain ⟨p, hp⟩ : ∃ p, p = pwr i := ⟨_, rfl⟩
      rw [← ha, ← hp] at hix
      have HA := hide ha
      have HP := hide hp
      clear ha hp
      by_cases hm : a = 181
      · have hm1 : (a == 181) = true := by rw [hm]; rfl
        have HA : Hid ((181 : Int) = ltr i) := by rw [← HA.out]; exact hm.symm
        clear hm
        go_wp2
        go_ret2
        refine ⟨?_, gr_alloc HR.out.1 _⟩
        unfold PrefE
        have : pwr i = -6 := by
          have h := HA.out
          match i, hlt, h with
          | 0, _, h => exact absurd h (by decide)
          | 1, _, h => exact absurd h (by decide)
          | 2, _, h => exact absurd h (by decide)
          | 3, _, h => exact absurd h (by decide)
          | 4, _, h => exact absurd h (by decide)
          | 5, _, h => exact absurd h (by decide)
          | 6, _, h => rfl
          | 7, _, h => exact absurd h (by decide)
          | 8, _, h => exact absurd h (by decide)
          | 9, _, h => exact absurd h (by decide)
        rw [HP.out, this]
        rfl
      · have hm1 : (a == 181) = false := beq_eq_false_iff_ne.2 hm
        have HM := hide hm
        clear hm
        go_wp2
        go_roundw
        case rel =>
          refine ⟨i + 1, by omega, by go_num, gr_alloc HR.out.1 _, fun j hj => ?_⟩
          by_cases e : j = i
          · subst e
            rw [← HA.out]
            exact HM.out
          · exact HR.out.2 j (by omega)
        case measure => simp [intOf]; omega
    · obtain rfl : i = 10 := by omega
      go_wp2
      go_ret2
      refine ⟨?_, HR.out.1⟩
      exact absurd rfl (HR.out.2 6 (by decide))

theorem readPrefix_at (c : Int) (w : World) (hc : 0 ≤ c) (hc2 : c ≤ 2147483647) (hT : PrefTab w) :
    Calls Tryz.prog 55 #[.int .i32 c] w fun e w' => e = PrefE c ∧ w.grownBy w' none := by
  by_cases h1 : c = 117
  · subst h1; exact readPrefix_u w hT
  · by_cases h2 : c = 956
    · subst h2; exact readPrefix_mu w hT
    · exact readPrefix_plain c w hT hc hc2 h1 h2
end Go.Proofs.YtgdiepfknfnmjaaGreatDoor

namespace Go.Proofs.YtgdiepfknfnmjaaGreatDoor
open Go.RowKit
set_option linter.unusedVariables false

/-- The prefixes, as bytes. -/
def pfxL : List (List UInt8 × Int) := [([102], -15), ([112], -12), ([110], -9), ([117], -6), ([194, 181], -6), ([206, 188], -6), ([109], -3), ([107], 3), ([77], 6), ([71], 9), ([84], 12)]

/-- The prefix that a text begins with: its power, how many bytes it has. -/
def pfxN (n b0 b1 : Nat) : Option (Int × Nat) :=
  if b0 = 102 then some (-15, 1) else if b0 = 112 then some (-12, 1) else if b0 = 110 then some (-9, 1) else if b0 = 117 then some (-6, 1) else if b0 = 109 then some (-3, 1) else if b0 = 107 then some (3, 1) else if b0 = 77 then some (6, 1) else if b0 = 71 then some (9, 1) else if b0 = 84 then some (12, 1)
  else if b0 = 194 ∧ 1 < n ∧ b1 = 181 then some (-6, 2) else if b0 = 206 ∧ 1 < n ∧ b1 = 188 then some (-6, 2) else none

theorem prefR_none {c : Int} (h : c ≠ 84 ∧ c ≠ 71 ∧ c ≠ 77 ∧ c ≠ 107 ∧ c ≠ 109 ∧ c ≠ 181 ∧ c ≠ 117 ∧ c ≠ 956 ∧ c ≠ 110 ∧ c ≠ 112 ∧ c ≠ 102) : prefR c = none := by
  obtain ⟨a1, a2, a3, a4, a5, a6, a7, a8, a9, a10, a11⟩ := h
  unfold prefR
  simp [a1, a2, a3, a4, a5, a6, a7, a8, a9, a10, a11]

theorem dec_ascii (n b0 b1 b2 b3 : Nat) (h : b0 < 128) : match pfxN n b0 b1 with
    | some (p, k) => prefR ((Lib.decodeN n b0 b1 b2 b3).1 : Nat) = some p ∧ (Lib.decodeN n b0 b1 b2 b3).2 = k
    | none => prefR ((Lib.decodeN n b0 b1 b2 b3).1 : Nat) = none := by
  rw [Lib.decodeN, if_pos h]
  by_cases e1 : b0 = 102
  · subst e1; exact ⟨rfl, rfl⟩
  by_cases e2 : b0 = 112
  · subst e2; exact ⟨rfl, rfl⟩
  by_cases e3 : b0 = 110
  · subst e3; exact ⟨rfl, rfl⟩
  by_cases e4 : b0 = 117
  · subst e4; exact ⟨rfl, rfl⟩
  by_cases e5 : b0 = 109
  · subst e5; exact ⟨rfl, rfl⟩
  by_cases e6 : b0 = 107
  · subst e6; exact ⟨rfl, rfl⟩
  by_cases e7 : b0 = 77
  · subst e7; exact ⟨rfl, rfl⟩
  by_cases e8 : b0 = 71
  · subst e8; exact ⟨rfl, rfl⟩
  by_cases e9 : b0 = 84
  · subst e9; exact ⟨rfl, rfl⟩
  have : pfxN n b0 b1 = none := by
    unfold pfxN
    rw [if_neg e1, if_neg e2, if_neg e3, if_neg e4, if_neg e5, if_neg e6, if_neg e7, if_neg e8, if_neg e9, if_neg (by omega), if_neg (by omega)]
  rw [this]
  exact prefR_none (by omega)

theorem dec_more (n b0 b1 b2 b3 : Nat) (h : ¬ b0 < 128) (hb : b0 < 256) (h1 : b1 < 256) : match pfxN n b0 b1 with
    | some (p, k) => prefR ((Lib.decodeN n b0 b1 b2 b3).1 : Nat) = some p ∧ (Lib.decodeN n b0 b1 b2 b3).2 = k
    | none => prefR ((Lib.decodeN n b0 b1 b2 b3).1 : Nat) = none := by
  by_cases e1 : b0 = 194 ∧ 1 < n ∧ b1 = 181
  · obtain ⟨rfl, hn, rfl⟩ := e1
    have : pfxN n 194 181 = some (-6, 2) := by simp [pfxN, hn]
    rw [this, Lib.decodeN, if_neg (by decide), if_pos ⟨by decide, hn, by decide⟩, if_pos (by decide)]
    exact ⟨rfl, rfl⟩
  by_cases e2 : b0 = 206 ∧ 1 < n ∧ b1 = 188
  · obtain ⟨rfl, hn, rfl⟩ := e2
    have : pfxN n 206 188 = some (-6, 2) := by simp [pfxN, hn]
    rw [this, Lib.decodeN, if_neg (by decide), if_pos ⟨by decide, hn, by decide⟩, if_pos (by decide)]
    exact ⟨rfl, rfl⟩
  have : pfxN n b0 b1 = none := by
    unfold pfxN
    rw [if_neg (by omega), if_neg (by omega), if_neg (by omega), if_neg (by omega), if_neg (by omega), if_neg (by omega), if_neg (by omega), if_neg (by omega), if_neg (by omega), if_neg e1, if_neg e2]
  rw [this]
  refine prefR_none ?_
  rw [Lib.decodeN, if_neg h]
  split
  · split
    · simp only
      omega
    · simp
  · split
    · split
      · simp only
        omega
      · simp
    · split
      · split
        · simp only
          omega
        · simp
      · simp

/-- The prefix of a text. -/
def pfxS (l : List UInt8) : Option (Int × Nat) := match l with
  | [] => none
  | [b] => pfxN 1 b.toNat 0
  | b :: c :: r => pfxN (r.length + 2) b.toNat c.toNat

theorem dec_all (n b0 b1 b2 b3 : Nat) (hb : b0 < 256) (h1 : b1 < 256) : match pfxN n b0 b1 with
    | some (p, k) => prefR ((Lib.decodeN n b0 b1 b2 b3).1 : Nat) = some p ∧ (Lib.decodeN n b0 b1 b2 b3).2 = k
    | none => prefR ((Lib.decodeN n b0 b1 b2 b3).1 : Nat) = none := by
  by_cases h : b0 < 128
  · exact dec_ascii n b0 b1 b2 b3 h
  · exact dec_more n b0 b1 b2 b3 h hb h1

theorem decode_pfx (s : ByteArray) : match pfxS s.data.toList with
    | some (p, k) => prefR ((Lib.decodeGo s).1 : Nat) = some p ∧ (Lib.decodeGo s).2 = k
    | none => prefR ((Lib.decodeGo s).1 : Nat) = none := by
  unfold Lib.decodeGo
  match hl : s.data.toList with
  | [] =>
    have : s = ⟨#[]⟩ := bytes_eq hl
    subst this
    exact prefR_none (by decide)
  | [b] =>
    have : s = ⟨#[b]⟩ := bytes_eq hl
    subst this
    rw [if_neg (by intro e; cases e), Lib.decode_at]
    exact dec_all 1 b.toNat 0 0 0 b.toNat_lt (by decide)
  | b :: c :: r =>
    have : s = ⟨(b :: c :: r).toArray⟩ := bytes_eq hl
    subst this
    have hs : (⟨(b :: c :: r).toArray⟩ : ByteArray).size = r.length + 2 := rfl
    rw [if_neg (by rw [hs]; omega), Lib.decode_at, hs]
    exact dec_all (r.length + 2) b.toNat c.toNat _ _ b.toNat_lt c.toNat_lt

theorem decode_size (s : ByteArray) : (Lib.decodeGo s).1 ≤ 1114111 := by
  unfold Lib.decodeGo
  split
  · decide
  · rw [Lib.decode_at]
    have h0 := (s.get! 0).toNat_lt
    unfold Lib.decodeN
    split
    · simp only; omega
    · split
      · split
        · simp only; omega
        · simp
      · split
        · split
          · simp only; omega
          · simp
        · split
          · split
            · simp only; omega
            · simp
          · simp

theorem pfxN_le {n b0 b1 : Nat} {p : Int} {k : Nat} (h : pfxN n b0 b1 = some (p, k)) (hn : 0 < n) : k ≤ n := by
  unfold pfxN at h
  repeat' split at h
  all_goals simp at h
  all_goals omega

theorem pfxS_le {l : List UInt8} {p : Int} {k : Nat} (h : pfxS l = some (p, k)) : k ≤ l.length := by
  match l, h with
  | [], h => simp [pfxS] at h
  | [b], h =>
    have h2 : pfxN 1 b.toNat 0 = some (p, k) := h
    exact pfxN_le (n := 1) h2 Nat.one_pos
  | b :: c :: r, h =>
    have h2 : pfxN (r.length + 2) b.toNat c.toNat = some (p, k) := h
    have := pfxN_le h2 (by omega)
    simpa using this

/-- What a text's ending is: its power and its unit. -/
def endR (l : List UInt8) : Option (Int × List UInt8) := match pfxS l with
  | some (p, k) => (match unitR (l.drop k) with
    | some u => some (p, u)
    | none => (unitR l).map (fun u => (0, u)))
  | none => (unitR l).map (fun u => (0, u))

def EndE (l : List UInt8) : Ending := match endR l with
  | some (p, u) => .returned (.tuple #[.int .i64 p, .string ⟨u.toArray⟩, .bool true])
  | none => .returned (.tuple #[.int .i64 0, .string ⟨#[]⟩, .bool false])

/-- The library's tables of runes lie there. -/
def UTabs (w : World) : Prop := Lib.Utf8Tabs 3 4 w
end Go.Proofs.YtgdiepfknfnmjaaGreatDoor

namespace Go.Proofs.YtgdiepfknfnmjaaGreatDoor
open Go.RowKit
set_option linter.unusedVariables false

theorem cut_drop (s : ByteArray) (k : Nat) (h : k ≤ s.size) : (s.extract k s.size).data.toList = s.data.toList.drop k := (cut_bytes s k h).1

set_option maxHeartbeats 4000000 in
theorem readEnding_at (s : ByteArray) (w : World) (hs : s.size ≤ 1000000) (hU : UTabs w) (hP : PrefTab w) :
    Calls Tryz.prog 16 #[.string s] w fun e w' => e = EndE s.data.toList ∧ w.grownBy w' none := by
  have HU := hide hU
  have HP := hide hP
  have hdp := decode_pfx s
  have hds := decode_size s
  clear hU hP
  go_enter Tryz.func16, Tryz.ntmps16
  go_wp2_with fail
  refine (Tryz.utf8_DecodeRuneInString s _ HU.out).mono ?_
  rintro e w1 ⟨rfl, b1⟩
  have G1 := hide (gr_of_below' b1)
  clear b1
  obtain ⟨c, hc⟩ : ∃ c, c = (Lib.decodeGo s).1 := ⟨_, rfl⟩
  obtain ⟨k, hk⟩ : ∃ k, k = (Lib.decodeGo s).2 := ⟨_, rfl⟩
  rw [← hc, ← hk] at hdp ⊢
  rw [← hc] at hds
  clear hc hk
  go_wp2_with fail
  refine (readPrefix_at (c : Int) _ (by omega) (by omega) (HP.out.keep0 G1.out)).mono ?_
  rintro e w2 ⟨rfl, g2⟩
  have G2 := hide (gr_none G1.out g2)
  clear g2
  cases hpf : pfxS s.data.toList with
  | none =>
    rw [hpf] at hdp
    simp only at hdp
    have HE : Hid (endR s.data.toList = (unitR s.data.toList).map (fun u => ((0 : Int), u))) := by
      show _ = _
      rw [endR, hpf]
    have ep : PrefE (c : Int) = .returned (.tuple #[.int .i64 0, .bool false]) := by rw [PrefE, hdp]
    rw [ep]
    clear ep hdp hpf
    go_wp2_with fail
    refine (readUnit_at s _).mono ?_
    rintro e w3 ⟨rfl, rfl⟩
    cases hu : unitR s.data.toList with
    | none =>
      rw [show UnitE s.data.toList = .returned (.tuple #[.string ⟨#[]⟩, .bool false]) from by rw [UnitE, hu]]
      rw [hu] at HE
      clear hu
      go_wp2
      refine bodyPost_ret (v := .tuple #[.int .i64 0, .string ⟨#[]⟩, .bool false]) (by simp [results, Tryz.results16, go_sem]) rfl ?_
      refine ⟨?_, G2.out⟩
      rw [EndE, HE.out]
      rfl
    | some u =>
      rw [show UnitE s.data.toList = .returned (.tuple #[.string ⟨u.toArray⟩, .bool true]) from by rw [UnitE, hu]]
      rw [hu] at HE
      clear hu
      go_wp2
      refine bodyPost_ret (v := .tuple #[.int .i64 0, .string ⟨u.toArray⟩, .bool true]) (by simp [results, Tryz.results16, go_sem]) rfl ?_
      refine ⟨?_, G2.out⟩
      rw [EndE, HE.out]
      rfl
  | some pk =>
    obtain ⟨p, k2⟩ := pk
    have hle := pfxS_le hpf
    rw [Array.length_toList] at hle
    have hle : k2 ≤ s.size := hle
    rw [hpf] at hdp
    simp only at hdp
    obtain ⟨hp1, rfl⟩ := hdp
    have ep : PrefE (c : Int) = .returned (.tuple #[.int .i64 p, .bool true]) := by rw [PrefE, hp1]
    rw [ep]
    have HE : Hid (endR s.data.toList = match unitR (s.data.toList.drop k) with
        | some u => some (p, u)
        | none => (unitR s.data.toList).map (fun u => ((0 : Int), u))) := by
      show _ = _
      rw [endR, hpf]
      try rfl
    have HD := hide (cut_drop s k hle)
    clear ep hp1 hpf
    go_wp2_with fail
    refine (readUnit_at _ _).mono ?_
    rintro e w3 ⟨rfl, rfl⟩
    rw [HD.out]
    cases hu : unitR (s.data.toList.drop k) with
    | some u =>
      rw [show UnitE (s.data.toList.drop k) = .returned (.tuple #[.string ⟨u.toArray⟩, .bool true]) from by rw [UnitE, hu]]
      rw [hu] at HE
      clear hu
      go_wp2
      refine bodyPost_ret (v := .tuple #[.int .i64 p, .string ⟨u.toArray⟩, .bool true]) (by simp [results, Tryz.results16, go_sem]) rfl ?_
      refine ⟨?_, G2.out⟩
      rw [EndE, HE.out]
      try rfl
    | none =>
      rw [show UnitE (s.data.toList.drop k) = .returned (.tuple #[.string ⟨#[]⟩, .bool false]) from by rw [UnitE, hu]]
      rw [hu] at HE
      clear hu
      go_wp2_with fail
      refine (readUnit_at s _).mono ?_
      rintro e w4 ⟨rfl, rfl⟩
      cases hu : unitR s.data.toList with
      | none =>
        rw [show UnitE s.data.toList = .returned (.tuple #[.string ⟨#[]⟩, .bool false]) from by rw [UnitE, hu]]
        rw [hu] at HE
        clear hu
        go_wp2
        refine bodyPost_ret (v := .tuple #[.int .i64 0, .string ⟨#[]⟩, .bool false]) (by simp [results, Tryz.results16, go_sem]) rfl ?_
        refine ⟨?_, G2.out⟩
        rw [EndE, HE.out]
        rfl
      | some u =>
        rw [show UnitE s.data.toList = .returned (.tuple #[.string ⟨u.toArray⟩, .bool true]) from by rw [UnitE, hu]]
        rw [hu] at HE
        clear hu
        go_wp2
        refine bodyPost_ret (v := .tuple #[.int .i64 0, .string ⟨u.toArray⟩, .bool true]) (by simp [results, Tryz.results16, go_sem]) rfl ?_
        refine ⟨?_, G2.out⟩
        rw [EndE, HE.out]
        rfl
end Go.Proofs.YtgdiepfknfnmjaaGreatDoor

namespace Go.Proofs.YtgdiepfknfnmjaaGreatDoor
open Go.RowKit
set_option linter.unusedVariables false
set_option linter.unusedSimpArgs false

/-- The sign of a text. -/
def sgnL (l : List UInt8) : Nat := if Lib.hasPrefix l [45] then 1 else 0

/-- The number that digits ahead of a point and behind it make, with a sign and a power of ten. -/
def decQ (neg : Bool) (ds fs : List UInt8) (p : Int) : Rat := ((sgq neg (decL (ds ++ fs)) : Int) : Rat) * (10 : Rat) ^ (p - fs.length)

/-- What is answered behind the digits. -/
def parseEnd (neg : Bool) (ds fs l : List UInt8) (at_ : Nat) : List UInt8 × List UInt8 × Int × Int := match endR l with
  | none => ([], [], 1, at_)
  | some (p, u) => (qtext (decQ neg ds fs p), u, 0, 0)

/-- A quantity, read. -/
def parseR (l : List UInt8) : List UInt8 × List UInt8 × Int × Int :=
  if 4000 < l.length then ([], [], 2, 0)
  else if runD (l.drop (sgnL l)) = 0 then ([], [], 1, sgnL l)
  else if Lib.hasPrefix (l.drop (sgnL l + runD (l.drop (sgnL l)))) [46] then
    (if runD (l.drop (sgnL l + runD (l.drop (sgnL l)) + 1)) = 0 then ([], [], 1, sgnL l + runD (l.drop (sgnL l)) + 1)
     else parseEnd (Lib.hasPrefix l [45]) ((l.drop (sgnL l)).take (runD (l.drop (sgnL l)))) ((l.drop (sgnL l + runD (l.drop (sgnL l)) + 1)).take (runD (l.drop (sgnL l + runD (l.drop (sgnL l)) + 1))))
       (l.drop (sgnL l + runD (l.drop (sgnL l)) + 1 + runD (l.drop (sgnL l + runD (l.drop (sgnL l)) + 1)))) (sgnL l + runD (l.drop (sgnL l)) + 1 + runD (l.drop (sgnL l + runD (l.drop (sgnL l)) + 1))))
  else parseEnd (Lib.hasPrefix l [45]) ((l.drop (sgnL l)).take (runD (l.drop (sgnL l)))) [] (l.drop (sgnL l + runD (l.drop (sgnL l)))) (sgnL l + runD (l.drop (sgnL l)))

def parV (r : List UInt8 × List UInt8 × Int × Int) : Value := .tuple #[.string ⟨r.1.toArray⟩, .string ⟨r.2.1.toArray⟩, .agg #[.int .i64 r.2.2.1, .int .i64 r.2.2.2]]

theorem flt_cells {w W : World} {a b : Value} (h : (w.alloc (Obj.cells #[a, b] 26)).grownBy W none) :
    W.cell? ⟨w.heap.size, 0, none⟩ = some a ∧ W.cell? ⟨w.heap.size, 1, none⟩ = some b ∧ ∀ i, W.frozen? ⟨w.heap.size, i, none⟩ = false := by
  have e : W.heap[w.heap.size]? = some (Obj.cells #[a, b] 26 (0, 0)) := by
    rw [h.block w.heap.size (by simp) (by simp)]
    exact heap_alloc_new w _
  exact ⟨by simp [World.cell?, e], by simp [World.cell?, e], fun i => by simp [World.frozen?, e]⟩

set_option maxHeartbeats 1000000 in
theorem refuse_at (c a : Int) (w : World) :
    Calls Tryz.prog 12 #[.int .i64 c, .int .i64 a] w fun e w' => e = .returned (parV ([], [], c, a)) ∧ w.grownBy w' none := by
  obtain ⟨c0, c1, cf⟩ := flt_cells (w := w) (a := .int .i64 0) (b := .int .i64 0) (gr_refl _ _)
  have cf0 := cf 0
  have cf1 := cf 1
  clear cf
  go_enter Tryz.func12, Tryz.ntmps12
  go_wp2
  refine bodyPost_ret (v := parV ([], [], c, a)) (by simp [results, Tryz.results12, go_sem, c0, c1, parV]) rfl ?_
  exact ⟨rfl, by first | exact gr_alloc (gr_refl _ _) _ | exact gr_set (gr_set (gr_alloc (gr_refl _ _) _) _ _ (by simp)) _ _ (by simp)⟩

theorem idx_no (l : List UInt8) (h : ∀ c ∈ l, isD c = true) : Lib.index l [47] = -1 := by
  induction l with
  | nil => rfl
  | cons c r ih =>
    have hc := h c (by simp)
    have hne : c ≠ 47 := by
      intro e
      subst e
      simp [isD] at hc
    rw [Lib.index, ih (fun x hx => h x (by simp [hx]))]
    have : ([47] : List UInt8).isPrefixOf (c :: r) = false := by
      simp [List.isPrefixOf]
      intro e
      exact hne e.symm
    rw [this]
    rfl

/-- Digits, and a sign ahead of them or not. -/
theorem ofR_digits (neg : Bool) (ds : List UInt8) (h0 : ds ≠ []) (hd : ∀ c ∈ ds, isD c = true) : ofR ((if neg then [45] else []) ++ ds) = ((sgq neg (decL ds) : Int) : Rat) := by
  obtain ⟨c, r, rfl⟩ : ∃ c r, ds = c :: r := by
    cases ds with
    | nil => exact absurd rfl h0
    | cons c r => exact ⟨c, r, rfl⟩
  have hc := hd c (by simp)
  have hc45 : c ≠ 45 := by
    intro e
    subst e
    simp [isD] at hc
  have hpre : Lib.hasPrefix ((if neg then [45] else []) ++ (c :: r)) [45] = neg := by
    cases neg
    · simp [Lib.hasPrefix, List.isPrefixOf]
      intro e
      exact hc45 e.symm
    · simp [Lib.hasPrefix, List.isPrefixOf]
  have htrim : Lib.trimPrefix ((if neg then [45] else []) ++ (c :: r)) [45] = c :: r := by
    rw [Lib.trimPrefix, hpre]
    cases neg <;> simp
  have hidx := idx_no (c :: r) hd
  have hcut : Lib.cut (c :: r) [47] = (c :: r, [], false) := by
    rw [Lib.cut, hidx]
    rfl
  have hall : allD (c :: r) = true := by
    unfold allD
    simp only [List.isEmpty_cons, Bool.not_false, Bool.true_and, List.all_eq_true]
    exact hd
  have hdown : downOf (c :: r) = [49] := by rw [downOf, hcut]; rfl
  rw [ofR, htrim, hpre, hdown, hcut]
  simp only
  rw [hall]
  have h49 : allD [49] = true := by decide
  have d49 : decL [49] = 1 := by decide
  rw [h49, d49]
  exact mk_one neg _

theorem tw_mem {p : UInt8 → Bool} {l : List UInt8} {c : UInt8} (h : c ∈ l.takeWhile p) : p c = true := by
  induction l with
  | nil => simp at h
  | cons x r ih =>
    rw [List.takeWhile_cons] at h
    split at h
    · rcases List.mem_cons.1 h with e | h
      · subst e; assumption
      · exact ih h
    · simp at h

theorem run_take (l : List UInt8) : (∀ c ∈ l.take (runD l), isD c = true) ∧ (l.take (runD l)).length = runD l := by
  have h1 := runD_le l
  refine ⟨?_, by rw [List.length_take]; omega⟩
  unfold runD
  have : l.take (l.takeWhile isD).length = l.takeWhile isD := by
    have h := List.takeWhile_prefix isD (l := l)
    exact (List.prefix_iff_eq_take.1 h).symm
  rw [this]
  intro c hc
  exact tw_mem hc

theorem sgn_take (l : List UInt8) (a : Nat) : l.take (sgnL l + a) = (if Lib.hasPrefix l [45] then [45] else []) ++ (l.drop (sgnL l)).take a := by
  unfold sgnL
  by_cases h : Lib.hasPrefix l [45] = true
  · rw [if_pos h, if_pos h]
    cases l with
    | nil => simp [Lib.hasPrefix, List.isPrefixOf] at h
    | cons c r =>
      have : c = 45 := by
        simp [Lib.hasPrefix, List.isPrefixOf] at h
        exact h.symm
      subst this
      rw [Nat.add_comm]
      simp
  · rw [if_neg h, if_neg h]
    simp

theorem sgn_len (l : List UInt8) : l.length - (Lib.trimPrefix l [45]).length = sgnL l ∧ sgnL l ≤ l.length ∧ (Lib.trimPrefix l [45]).length ≤ l.length := by
  unfold sgnL Lib.trimPrefix
  by_cases h : Lib.hasPrefix l [45] = true
  · rw [if_pos h, if_pos h]
    cases l with
    | nil => simp [Lib.hasPrefix, List.isPrefixOf] at h
    | cons c r => simp
  · rw [if_neg h, if_neg h]
    simp
end Go.Proofs.YtgdiepfknfnmjaaGreatDoor
