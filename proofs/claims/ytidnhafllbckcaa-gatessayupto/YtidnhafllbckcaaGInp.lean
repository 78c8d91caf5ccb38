/- gates: inputs; voltaiclaw: rows. -/
import Derived.Test.YtidnhafllbckcaaGArr
import Derived.Laws.BitsAllLaws
namespace Go.Proofs.Ytidnhafllbckcaa
open Go.RowKit
set_option linter.unusedVariables false
set_option linter.unusedSimpArgs false

theorem i64_and1 (n : Int) : bits .and .i64 n 1 = n % 2 := by
  have h1 : (BitVec.ofInt 64 1).toNat = 2 ^ 1 - 1 := by decide
  have key : (BitVec.ofInt 64 n &&& BitVec.ofInt 64 1).toNat = (n % ((2 ^ 64 : Nat) : Int)).toNat % 2 ^ 1 := by
    rw [BitVec.toNat_and, BitVec.toNat_ofInt, h1, Nat.and_two_pow_sub_one_eq_mod]
  show IntKind.i64.wrap ((BitVec.ofInt 64 n &&& BitVec.ofInt 64 1).toNat : Nat) = n % 2
  rw [key, IntKind.wrap_i64]
  omega

theorem i64_or_nat (a b : Nat) (ha : a < 9223372036854775808) (hb : b < 9223372036854775808) : bits .or .i64 (a : Int) (b : Int) = ((a ||| b : Nat) : Int) := by
  have hx : a ||| b < 2 ^ 63 := Nat.or_lt_two_pow (by omega) (by omega)
  show IntKind.i64.wrap ((BitVec.ofInt 64 (a : Int) ||| BitVec.ofInt 64 (b : Int)).toNat : Int) = _
  rw [BitVec.toNat_or, ofInt_u64 a (by omega), ofInt_u64 b (by omega), IntKind.wrap_i64]
  omega

theorem bit_cast (row j : Nat) : bits .and .i64 ((row : Int) / 2 ^ j) 1 = ((row / 2 ^ j % 2 : Nat) : Int) := by
  rw [i64_and1, Int.natCast_emod, Int.natCast_ediv, Int.natCast_pow]
  rfl

/-- The bits of a row, the lowest first. -/
def bitsL (row k : Nat) : List Int := (List.range k).map fun j => ((row / 2 ^ j % 2 : Nat) : Int)

theorem bitsL_length (row k : Nat) : (bitsL row k).length = k := by simp [bitsL]
theorem bitsL_get (row k j : Nat) (h : j < (bitsL row k).length) : (bitsL row k)[j] = ((row / 2 ^ j % 2 : Nat) : Int) := by simp [bitsL]
theorem bitsL_getD (row k j : Nat) (h : j < k) (d : Int) : (bitsL row k).getD j d = ((row / 2 ^ j % 2 : Nat) : Int) := by
  have : j < (bitsL row k).length := by rw [bitsL_length]; exact h
  simp [List.getD_eq_getElem?_getD, this, bitsL_get]
theorem bitsL_set (row k j : Nat) (h : j < k) : (bitsL row j ++ List.replicate (k - j) 0).set j ((row / 2 ^ j % 2 : Nat) : Int) = bitsL row (j + 1) ++ List.replicate (k - (j + 1)) 0 := by
  apply List.ext_getElem
  · simp [bitsL]; omega
  · intro i h1 h2
    rw [List.getElem_set]
    by_cases e : j = i
    · subst e
      rw [if_pos rfl, List.getElem_append_left (by rw [bitsL_length]; omega), bitsL_get]
    · rw [if_neg e]
      by_cases hi : i < j
      · rw [List.getElem_append_left (by rw [bitsL_length]; omega), List.getElem_append_left (by rw [bitsL_length]; omega), bitsL_get, bitsL_get]
      · rw [List.getElem_append_right (by rw [bitsL_length]; omega), List.getElem_append_right (by rw [bitsL_length]; omega)]
        simp

theorem IArr.row {w : World} {g : Nat} {xs : List Int} (h : IArr w g xs) (n : Nat) (hn : n = xs.length) (hm : n ≤ 1000) : IntR w (.slice (some ⟨g, 0, none⟩) n n) xs := by
  subst hn
  exact ⟨_, _, rfl, Nat.le_refl _, by unfold maxLen; omega, fun j hj => ⟨g, 0, rfl, h.lt, by rw [Nat.zero_add]; exact h.cell j hj⟩⟩

def InpR (w : World) (g row k : Nat) (iv : Value) (wr : World) : Prop :=
  ∃ i : Nat, i ≤ k ∧ iv = .int .i64 (i : Nat) ∧ IArr wr g (bitsL row i ++ List.replicate (k - i) 0) ∧ w.grownBy wr none

set_option maxHeartbeats 4000000 in
set_option maxRecDepth 10000 in
theorem inputs_at (row k : Nat) (w : World) (hr : row < 64) (hk : k ≤ 6) :
    Calls Try.prog 19 #[.int .i64 (row : Nat), .int .i64 (k : Nat)] w fun e w' => e = .returned (.slice (some ⟨w.heap.size, 0, none⟩) k k) ∧ IArr w' w.heap.size (bitsL row k) ∧ w.grownBy w' none := by
  go_enter Try.func19, Try.ntmps19
  go_wp2_with (at_make; refine wpList_make_g iv 3 0 8 _ rfl _ _ 25 rfl Try.underlying25 Try.infoInt rfl _ _ _ _ k rfl rfl (by omega) (by omega) (by omega) (by omega) ?_)
  intro w1 hA g1
  have HA := hide hA
  have G1 := hide g1
  obtain ⟨g, hg⟩ : ∃ g, g = w.heap.size := ⟨_, rfl⟩
  rw [← hg] at HA ⊢
  have hgs : w.heap.size ≤ g := by omega
  have HG := hide hg
  clear hA g1 hg
  go_wp2
  go_loopw [11] (fun iv wr => Hid (InpR w g row k iv wr)) (fun iv _ => k - (intOf iv).toNat)
  case atStart => exact ⟨0, by omega, rfl, by simpa [bitsL] using HA.out, G1.out⟩
  case round =>
    obtain ⟨j, hj, rfl, hI, hgr⟩ := hrel.out
    have HI := hide hI
    have HGR := hide hgr
    clear hI hgr hrel HA
    by_cases hlt : j < k
    · have f0 := HI.out.free j
      have hlen : (bitsL row j ++ List.replicate (k - j) 0).length = k := by simp [bitsL]; omega
      have c0 := HI.out.cell j (by omega)
      go_wp2
      go_roundw
      case rel =>
        refine ⟨j + 1, by omega, by go_num, ?_, gr_set HGR.out _ _ hgs⟩
        rw [bit_cast]
        have h := HI.out.set j ((row / 2 ^ j % 2 : Nat) : Int) (.int .i64 ((row / 2 ^ j % 2 : Nat) : Int)) rfl
        rw [bitsL_set row k j hlt] at h
        exact h
      case measure => simp [intOf]; omega
    · obtain rfl : j = k := by omega
      go_wp2
      go_ret
      rw [← HG.out]
      refine ⟨rfl, ?_, HGR.out⟩
      have h := HI.out
      simpa using h

set_option maxHeartbeats 4000000 in
set_option maxRecDepth 10000 in
theorem rows_at (row k : Nat) (w : World) (hr : row < 64) (hk : k ≤ 6) :
    Calls Try.prog 14 #[.int .i64 (k : Nat), .int .i64 (row : Nat)] w fun e w' => e = .returned (.slice (some ⟨w.heap.size, 0, none⟩) k k) ∧ IArr w' w.heap.size (bitsL row k) ∧ w.grownBy w' none := by
  go_enter Try.func14, Try.ntmps14
  go_wp2_with (at_make; refine wpList_make_g iv 3 0 8 _ rfl _ _ 25 rfl Try.underlying25 Try.infoInt rfl _ _ _ _ k rfl rfl (by omega) (by omega) (by omega) (by omega) ?_)
  intro w1 hA g1
  have HA := hide hA
  have G1 := hide g1
  obtain ⟨g, hg⟩ : ∃ g, g = w.heap.size := ⟨_, rfl⟩
  rw [← hg] at HA ⊢
  have hgs : w.heap.size ≤ g := by omega
  have HG := hide hg
  clear hA g1 hg
  go_wp2
  go_loopw [11] (fun iv wr => Hid (InpR w g row k iv wr)) (fun iv _ => k - (intOf iv).toNat)
  case atStart => exact ⟨0, by omega, rfl, by simpa [bitsL] using HA.out, G1.out⟩
  case round =>
    obtain ⟨j, hj, rfl, hI, hgr⟩ := hrel.out
    have HI := hide hI
    have HGR := hide hgr
    clear hI hgr hrel HA
    by_cases hlt : j < k
    · have f0 := HI.out.free j
      have hlen : (bitsL row j ++ List.replicate (k - j) 0).length = k := by simp [bitsL]; omega
      have c0 := HI.out.cell j (by omega)
      go_wp2
      go_roundw
      case rel =>
        refine ⟨j + 1, by omega, by go_num, ?_, gr_set HGR.out _ _ hgs⟩
        rw [bit_cast]
        have h := HI.out.set j ((row / 2 ^ j % 2 : Nat) : Int) (.int .i64 ((row / 2 ^ j % 2 : Nat) : Int)) rfl
        rw [bitsL_set row k j hlt] at h
        exact h
      case measure => simp [intOf]; omega
    · obtain rfl : j = k := by omega
      go_wp2
      go_ret
      rw [← HG.out]
      refine ⟨rfl, ?_, HGR.out⟩
      have h := HI.out
      simpa using h
end Go.Proofs.Ytidnhafllbckcaa
