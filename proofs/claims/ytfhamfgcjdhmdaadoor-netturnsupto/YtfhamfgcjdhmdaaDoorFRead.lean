/- frac: DigitsEnd, isDigits. -/
import Derived.Test.YtfhamfgcjdhmdaaDoorFLow
namespace Go.Proofs.YtfhamfgcjdhmdaaDoor
open Go.RowKit
set_option linter.unusedVariables false

/-- A digit. -/
def isD (c : UInt8) : Bool := 48 ≤ c.toNat && c.toNat ≤ 57

/-- How many digits a list begins with. -/
def runD (l : List UInt8) : Nat := (l.takeWhile isD).length

theorem runD_le (l : List UInt8) : runD l ≤ l.length := by
  unfold runD
  have := (List.takeWhile_prefix isD (l := l)).length_le
  exact this

theorem runD_cons (c : UInt8) (l : List UInt8) : runD (c :: l) = if isD c then runD l + 1 else 0 := by
  unfold runD
  rw [List.takeWhile_cons]
  split <;> simp

theorem drop_byte (s : ByteArray) (k : Nat) (h : k < s.size) : s.data.toList.drop k = s[k] :: s.data.toList.drop (k + 1) := by
  rw [List.drop_eq_getElem_cons (by simpa using h)]
  rfl

def EndR (s : ByteArray) (E : Nat) (v : Value) : Prop := ∃ k : Nat, k ≤ s.size ∧ v = .int .i64 k ∧ Hid (k + runD (s.data.toList.drop k) = E)

set_option maxHeartbeats 400000 in
theorem digitsEnd_at (s : ByteArray) (k0 : Nat) (w : World) (hs : s.size ≤ 1000000000) (hk0 : k0 ≤ s.size) :
    Calls Tryd.prog 36 #[.string s, .int .i64 (k0 : Nat)] w fun e w' => e = .returned (.int .i64 ((k0 + runD (s.data.toList.drop k0) : Nat) : Int)) ∧ w' = w := by
  obtain ⟨E, hE⟩ : ∃ E, k0 + runD (s.data.toList.drop k0) = E := ⟨_, rfl⟩
  rw [hE]
  have HE := hide hE
  clear hE
  go_enter Tryd.func36, Tryd.ntmps36
  go_wp2
  go_loop [1] (fun v => EndR s E v) (fun v => s.size - (intOf v).toNat)
  case atStart => exact ⟨k0, hk0, rfl, HE.out⟩
  case round =>
    obtain ⟨k, hk, rfl, HK⟩ := hrel
    by_cases hlt : k < s.size
    · have hd := drop_byte s k hlt
      have HDR := hide hd
      clear hd
      by_cases h1 : 48 ≤ s[k].toNat
      · by_cases h2 : s[k].toNat ≤ 57
        · have h1' : (48 : Int) ≤ (s[k].toNat : Int) := by omega
          have h2' : (s[k].toNat : Int) ≤ 57 := by omega
          go_wp2
          go_round
          case rel =>
            refine ⟨k + 1, by omega, by go_num, ?_⟩
            have := HK.out
            rw [HDR.out, runD_cons, if_pos (by simp [isD, h1, h2])] at this
            show _ = _
            omega
          case measure => simp [intOf]; omega
        · have h1' : (48 : Int) ≤ (s[k].toNat : Int) := by omega
          have h2' : ¬ (s[k].toNat : Int) ≤ 57 := by omega
          go_wp2
          go_ret
          refine ⟨?_, rfl⟩
          have := HK.out
          rw [HDR.out, runD_cons, if_neg (by simp [isD, h2])] at this
          rw [← this]
          rfl
      · have h1' : ¬ (48 : Int) ≤ (s[k].toNat : Int) := by omega
        go_wp2
        go_ret
        refine ⟨?_, rfl⟩
        have := HK.out
        rw [HDR.out, runD_cons, if_neg (by simp [isD, h1])] at this
        rw [← this]
        rfl
    · obtain rfl : k = s.size := by omega
      go_wp2
      go_ret
      refine ⟨?_, rfl⟩
      have := HK.out
      rw [List.drop_of_length_le (by simp)] at this
      rw [← this]
      rfl

/-- Digits alone, and not none. -/
def allD (l : List UInt8) : Bool := !l.isEmpty && l.all isD

theorem runD_all (l : List UInt8) : (runD l = l.length) ↔ l.all isD = true := by
  induction l with
  | nil => simp [runD]
  | cons c r ih =>
    rw [runD_cons]
    by_cases h : isD c
    · simp [h, ih]
    · simp [h]

set_option maxHeartbeats 400000 in
theorem isDigits_at (s : ByteArray) (w : World) (hs : s.size ≤ 1000000000) :
    Calls Tryd.prog 30 #[.string s] w fun e w' => e = .returned (.bool (allD s.data.toList)) ∧ w' = w := by
  by_cases h0 : s.size = 0
  · have e : s = ⟨#[]⟩ := by
      cases s with
      | mk d => cases d with
        | mk l =>
          cases l with
          | nil => rfl
          | cons a b => simp [ByteArray.size] at h0
    subst e
    go_enter Tryd.func30, Tryd.ntmps30
    go_wp2
    go_ret
    exact ⟨rfl, rfl⟩
  · have hne : ¬ s.toList = [] := by
      intro e
      apply h0
      rw [ByteArray.toList_eq] at e
      rw [Lib.size_eq, e]
      rfl
    have HAL : Hid (allD s.data.toList = decide (runD s.data.toList = s.size)) := by
      show _ = _
      rw [Bool.eq_iff_iff, decide_eq_true_eq]
      have := runD_all s.data.toList
      rw [Array.length_toList] at this
      rw [show s.size = s.data.size from rfl, this]
      unfold allD
      have h1 : s.data.toList.isEmpty = false := by
        cases hl : s.data.toList with
        | nil =>
          exfalso
          apply h0
          show s.data.size = 0
          rw [← Array.length_toList, hl]
          rfl
        | cons a b => rfl
      simp [h1]
    have hrl := runD_le s.data.toList
    rw [Array.length_toList, show s.data.size = s.size from rfl] at hrl
    go_enter Tryd.func30, Tryd.ntmps30
    go_wp2_with fail
    refine (digitsEnd_at s 0 _ hs (Nat.zero_le _)).mono ?_
    rintro e w1 ⟨rfl, rfl⟩
    rw [Nat.zero_add, List.drop_zero]
    have HB := HAL.out
    generalize runD s.data.toList = r at hrl HB ⊢
    have HC := hide HB
    have HNE := hide hne
    clear HB HAL hne
    go_wp2
    go_ret
    refine ⟨?_, rfl⟩
    rw [HC.out]
    show Ending.returned (.bool (!s.toList.isEmpty && ((r : Int) == (s.size : Int)))) = _
    have h1 : s.toList.isEmpty = false := by
      cases hl : s.toList with
      | nil => exact absurd hl HNE.out
      | cons a b => rfl
    rw [h1]
    congr 2
    rw [Bool.eq_iff_iff]
    simp
    omega
end Go.Proofs.YtfhamfgcjdhmdaaDoor
