/- frac: raise, lower (by less than a word). -/
import Derived.Test.YtfhamfgcjdhmdaaDoorFGrow
import Derived.Laws.BitsAllLaws
namespace Go.Proofs.YtfhamfgcjdhmdaaDoor
open Go.RowKit

def RaiseInv (w wr : World) (xs : List Nat) (s k c : Nat) : Prop :=
  ∃ done : List Nat, done.length = k ∧ Sm done ∧ Arr wr w.heap.size (done ++ c :: List.replicate (xs.length - k) 0) ∧ w.grownBy wr none ∧ val done + 4294967296 ^ k * c = val (xs.take k) * 2 ^ s

theorem RaiseInv.step {w wr : World} {xs : List Nat} {s k c : Nat} (h : RaiseInv w wr xs s k c) (hk : k < xs.length) (hs : s < 32) (hc : c < 2 ^ s) (x : Nat) (hx : x = xs[k]) (z1 z2 : Int)
    (hz1 : z1 = ((c + x * 2 ^ s % 4294967296 : Nat) : Int)) (hz2 : z2 = ((x * 2 ^ s / 4294967296 : Nat) : Int)) :
    RaiseInv w ((wr.setCell ⟨w.heap.size, k, none⟩ (.int .u32 z1)).setCell ⟨w.heap.size, k + 1, none⟩ (.int .u32 z2)) xs s (k + 1) (x * 2 ^ s / 4294967296) := by
  obtain ⟨done, h1, h2, h3, h4, h5⟩ := h
  have hb := (or_low s c x hs hc).2
  refine ⟨done ++ [c + x * 2 ^ s % 4294967296], by simp [h1], h2.append (Sm.cons hb Sm.nil), ?_, gr_set (gr_set h4 _ _ (Nat.le_refl _)) _ _ (Nat.le_refl _), ?_⟩
  · have := (h3.set k (c + x * 2 ^ s % 4294967296)).set (k + 1) (x * 2 ^ s / 4294967296)
    rw [hz1, hz2]
    have e : ((done ++ c :: List.replicate (xs.length - k) 0).set k (c + x * 2 ^ s % 4294967296)).set (k + 1) (x * 2 ^ s / 4294967296)
        = (done ++ [c + x * 2 ^ s % 4294967296]) ++ (x * 2 ^ s / 4294967296) :: List.replicate (xs.length - (k + 1)) 0 := by
      obtain ⟨m, hm⟩ : ∃ m, xs.length - k = m + 1 := ⟨xs.length - k - 1, by omega⟩
      rw [hm, show xs.length - (k + 1) = m from by omega]
      subst h1
      rw [List.set_append_right _ _ (Nat.le_refl _), List.set_append_right _ _ (by omega)]
      simp [List.replicate_succ]
    rw [e] at this
    exact this
  · rw [val_snoc, h1, val_take_succ xs k hk, ← hx, Nat.add_mul, ← h5, Nat.pow_succ, Nat.mul_add, Nat.mul_assoc (4294967296 ^ k) x]
    have := carry_step (4294967296 ^ k) (x * 2 ^ s)
    omega

theorem raise_z2 (x s : Nat) (hx : x < 4294967296) (hs : s < 32) : IntKind.u64.wrap ((x : Int) * 2 ^ s) / 4294967296 % 4294967296 = ((x * 2 ^ s / 4294967296 : Nat) : Int) := by
  have h := (shl_cast x s hx hs).2
  rw [(shl_cast x s hx hs).1]
  omega

set_option maxHeartbeats 1000000 in
theorem raise_ws (va : Value) (xs : List Nat) (s : Nat) (w : World) (ha : Ws w va xs) (hs : s < 32) (hl : xs.length ≤ 1000000000) :
    Calls Tryd.prog 48 #[va, .int .i64 (s : Nat)] w fun e w' => ∃ us, e = .returned (.slice (some ⟨w.heap.size, 0, none⟩) (xs.length + 1) (xs.length + 1)) ∧ us.length = xs.length + 1 ∧ Sm us ∧ Arr w' w.heap.size us ∧ val us = val xs * 2 ^ s ∧ w.grownBy w' none := by
  obtain ⟨ao, ca, rfl, hca, hca', Ha⟩ := ha.open
  unfold maxLen at hca'
  have HA := hide Ha
  have SA := hide ha.sm
  clear Ha ha
  go_enter Tryd.func48, Tryd.ntmps48
  go_wp2_with (at_make; refine wpList_make_words _ rfl _ _ 62 rfl Tryd.underlying62 Tryd.info32 _ _ _ _ (xs.length + 1) rfl rfl (by omega) (by omega) (by omega) ?_)
  intro w1 harr hgr
  have HR := hide harr
  have HG := hide hgr
  clear harr hgr
  go_wp2
  go_loopw [15] (fun i wr => ∃ k c : Nat, k ≤ xs.length ∧ i = .int .i64 k ∧ Hid (c < 2 ^ s) ∧ Hid (RaiseInv w wr xs s k c)) (fun i _ => xs.length - (intOf i).toNat)
  case atStart => exact ⟨0, 0, Nat.zero_le _, rfl, Nat.two_pow_pos s, [], rfl, Sm.nil, by
    have := HR.out
    rw [List.replicate_succ] at this
    exact this, HG.out, by simp [val]⟩
  case round =>
    obtain ⟨k, c, hk, rfl, HC, HI⟩ := hrel
    by_cases hlt : k < xs.length
    · obtain ⟨b, off, rfl, hbl, hcell⟩ := unhide HA k hlt
      have hx := (unhide SA).get k hlt
      obtain ⟨x, ex⟩ : ∃ x, x = xs[k] := ⟨_, rfl⟩
      rw [← ex] at hcell hx
      have EX := hide ex
      clear ex
      obtain ⟨done, h1, h2, h3, h4, h5⟩ := HI.out
      have hcx : wr.cell? ⟨b, off + k, none⟩ = some (.int .u32 (x : Nat)) := h4.cell hcell (by simp)
      have hf1 : wr.frozen? ⟨w.heap.size, k, none⟩ = false := h3.free k
      have hf2 : wr.frozen? ⟨w.heap.size, k + 1, none⟩ = false := h3.free (k + 1)
      have hc1 : wr.cell? ⟨w.heap.size, k, none⟩ = some (.int .u32 (c : Nat)) := by
        rw [h3.cell k (by simp [h1])]
        simp [h1]
      have hc2 : wr.cell? ⟨w.heap.size, k + 1, none⟩ = some (.int .u32 ((0 : Nat) : Int)) := by
        rw [h3.cell (k + 1) (by simp [h1]; omega)]
        obtain ⟨m, hm⟩ : ∃ m, xs.length - k = m + 1 := ⟨xs.length - k - 1, by omega⟩
        simp [h1, hm, List.replicate_succ]
      clear h1 h2 h3 h4 h5 hcell
      go_wp2
      go_roundw
      case rel => exact ⟨k + 1, x * 2 ^ s / 4294967296, by omega, by go_num, left_c x s hx, RaiseInv.step HI.out hlt hs HC.out x EX.out _ _ (left_z1 c x s hx hs HC.out) (raise_z2 x s hx hs)⟩
      case measure => simp [intOf]; omega
    · obtain rfl : k = xs.length := by omega
      go_wp2
      go_ret
      obtain ⟨done, h1, h2, h3, h4, h5⟩ := HI.out
      rw [Nat.sub_self, List.replicate_zero] at h3
      have hc := HC.out
      have h1s : 2 ^ s ≤ 2 ^ 31 := Nat.pow_le_pow_right (by decide) (by omega)
      refine ⟨done ++ [c], rfl, by simp [h1], h2.append (Sm.cons (by omega) Sm.nil), h3, ?_, h4⟩
      rw [val_snoc, h1, h5, List.take_of_length_le (Nat.le_refl _)]

/-- The words of a number that was shifted down. -/
def rsh (xs : List Nat) (s : Nat) : List Nat := (List.range xs.length).map fun i => (xs.getD i 0 + 4294967296 * xs.getD (i + 1) 0) / 2 ^ s % 4294967296

theorem rsh_length (xs : List Nat) (s : Nat) : (rsh xs s).length = xs.length := by simp [rsh]
theorem rsh_get (xs : List Nat) (s i : Nat) (h : i < (rsh xs s).length) : (rsh xs s)[i] = (xs.getD i 0 + 4294967296 * xs.getD (i + 1) 0) / 2 ^ s % 4294967296 := by simp [rsh]
theorem rsh_sm (xs : List Nat) (s : Nat) : Sm (rsh xs s) := fun x hx => by
  simp only [rsh, List.mem_map] at hx
  obtain ⟨i, _, rfl⟩ := hx
  exact Nat.mod_lt _ (by decide)

theorem rsh_take (xs : List Nat) (s : Nat) (h : Sm xs) (hs : s < 32) (k : Nat) (hk : k ≤ xs.length) : val ((rsh xs s).take k) = val xs / 2 ^ s % 4294967296 ^ k := by
  induction k with
  | zero => simp [val, Nat.mod_one]
  | succ k ih =>
    have hk' : k < xs.length := by omega
    rw [val_take_succ _ k (by rw [rsh_length]; exact hk'), ih (by omega), rsh_get]
    have e := right_step xs s k h hs hk'
    have e1 : xs.getD k 0 = xs[k] := by simp [hk']
    rw [e1, ← e, Nat.pow_succ, Nat.mod_mul]

theorem rsh_val (xs : List Nat) (s : Nat) (h : Sm xs) (hs : s < 32) : val (rsh xs s) = val xs / 2 ^ s := by
  have h1 := rsh_take xs s h hs xs.length (Nat.le_refl _)
  rw [List.take_of_length_le (by rw [rsh_length]; exact Nat.le_refl _)] at h1
  have h2 := val_lt h
  have h3 := Nat.div_le_self (val xs) (2 ^ s)
  rw [h1, Nat.mod_eq_of_lt (by omega)]

def LowInv (w wr : World) (xs : List Nat) (s k : Nat) : Prop := Arr wr w.heap.size (List.replicate k 0 ++ (rsh xs s).drop k) ∧ w.grownBy wr none

theorem LowInv.step {w wr : World} {xs : List Nat} {s j : Nat} (h : LowInv w wr xs s (j + 1)) (hj : j < xs.length) (x y : Nat) (hx : x = xs[j]) (hy : y = xs.getD (j + 1) 0) (z : Int) (hz : z = (((y * 4294967296 + x) / 2 ^ s % 4294967296 : Nat) : Int)) :
    LowInv w (wr.setCell ⟨w.heap.size, j, none⟩ (.int .u32 z)) xs s j := by
  obtain ⟨h1, h2⟩ := h
  refine ⟨?_, gr_set h2 _ _ (Nat.le_refl _)⟩
  have := h1.set j ((y * 4294967296 + x) / 2 ^ s % 4294967296)
  rw [hz]
  have e : (List.replicate (j + 1) 0 ++ (rsh xs s).drop (j + 1)).set j ((y * 4294967296 + x) / 2 ^ s % 4294967296) = List.replicate j 0 ++ (rsh xs s).drop j := by
    rw [← List.replicate_append_replicate (n := j) (m := 1), List.append_assoc, List.set_append_right _ _ (by simp), List.drop_eq_getElem_cons (i := j) (by rw [rsh_length]; exact hj), rsh_get]
    have e1 : xs.getD j 0 = x := by rw [hx]; simp [hj]
    rw [e1, ← hy, Nat.mul_comm y, Nat.add_comm (4294967296 * y)]
    simp
  rw [e] at this
  exact this

set_option maxHeartbeats 1000000 in
theorem lower_own (va : Value) (xs : List Nat) (s : Nat) (w : World) (ha : Ws w va xs) (hs : s < 32) (hl : xs.length ≤ 1000000000) :
    Calls Tryd.prog 53 #[va, .int .i64 (s : Nat)] w fun e w' => ∃ v', e = .returned v' ∧ OwnN w' w.heap.size v' (val xs / 2 ^ s) xs.length ∧ w.grownBy w' none := by
  obtain ⟨ao, ca, rfl, hca, hca', Ha⟩ := ha.open
  unfold maxLen at hca'
  have HA := hide Ha
  have SA := hide ha.sm
  clear Ha ha
  go_enter Tryd.func53, Tryd.ntmps53
  go_wp2_with (at_make; refine wpList_make_words _ rfl _ _ 62 rfl Tryd.underlying62 Tryd.info32 _ _ _ _ xs.length rfl rfl (by omega) (by omega) (by omega) ?_)
  intro w1 harr hgr
  have HR := hide harr
  have HG := hide hgr
  clear harr hgr
  go_wp2
  go_loopw [6, 7] (fun av iv wr => ∃ (z : Int) (y : Nat), -1 ≤ z ∧ z < xs.length ∧ y < 4294967296 ∧ iv = .int .i64 z ∧ av = .int .u64 y ∧ Hid (y = xs.getD (z + 1).toNat 0) ∧ Hid (LowInv w wr xs s (z + 1).toNat)) (fun _ iv _ => (intOf iv + 1).toNat)
  case atStart =>
    have e : ((xs.length : Int) - 1 + 1).toNat = xs.length := by omega
    refine ⟨(xs.length : Int) - 1, 0, by omega, by omega, by omega, rfl, rfl, ?_, ?_, HG.out⟩
    · show 0 = _
      rw [e]
      simp [List.getD]
    · rw [e, List.drop_of_length_le (by rw [rsh_length]; exact Nat.le_refl _), List.append_nil]
      exact HR.out
  case round =>
    obtain ⟨z, y, hz1, hz2, hy, rfl, rfl, EY, HI⟩ := hrel
    by_cases h0 : z < 0
    · go_wp2_with fail
      obtain ⟨h3, h4⟩ := HI.out
      rw [show (z + 1).toNat = 0 from by omega] at h3
      simp only [List.replicate_zero, List.nil_append, List.drop_zero] at h3
      have hw := h3.own (base := w.heap.size) (Nat.le_refl _) (by rw [rsh_length]; unfold maxLen; omega)
      rw [rsh_length] at hw
      clear h3
      refine (ftrim_own _ (rsh xs s) _ w.heap.size hw (rsh_sm xs s)).mono ?_
      rintro e w2 ⟨v', rfl, rfl, k1, k2⟩
      have K1 := hide k1
      have K2 := hide k2
      have H4 := hide h4
      clear hw k1 k2 h4 HI EY
      go_wp2
      go_ret
      refine ⟨v', rfl, ⟨_, K1.out, (rsh_sm xs s).trimL, Tr.trimL _, ?_, ?_⟩, H4.out⟩
      · rw [val_trimL, rsh_val xs s SA.out hs]
      · have := trimL_length (rsh xs s)
        rw [rsh_length] at this
        exact this
    · obtain ⟨j, rfl⟩ : ∃ j : Nat, z = j := ⟨z.toNat, by omega⟩
      have hjx : j < xs.length := by omega
      have ej : ((j : Int) + 1).toNat = j + 1 := by omega
      obtain ⟨b, off, rfl, hbl, hcell⟩ := unhide HA j hjx
      have hx := (unhide SA).get j hjx
      obtain ⟨x, ex⟩ : ∃ x, x = xs[j] := ⟨_, rfl⟩
      rw [← ex] at hcell hx
      have EX := hide ex
      have HI' := HI.out
      have EY' := EY.out
      rw [ej] at HI' EY'
      have hcx : wr.cell? ⟨b, off + j, none⟩ = some (.int .u32 (x : Nat)) := HI'.2.cell hcell (by simp)
      have hfr : wr.frozen? ⟨w.heap.size, j, none⟩ = false := HI'.1.free j
      obtain ⟨v0, hco⟩ : ∃ v, wr.cell? ⟨w.heap.size, j, none⟩ = some v := ⟨_, HI'.1.cell j (by simp; omega)⟩
      obtain ⟨m, hm⟩ : ∃ m, m = y * 4294967296 + x := ⟨_, rfl⟩
      have hor := or_word y x hy hx
      rw [← hm] at hor
      have hmb : m < 18446744073709551616 := by omega
      have HM := hide hm
      have HJ := hide HI'
      have EY2 := hide EY'
      have hcx2 : ∀ v, (wr.setCell ⟨w.heap.size, j, none⟩ v).cell? ⟨b, off + j, none⟩ = some (.int .u32 (x : Nat)) := by
        intro v
        rw [World.cell?_of_block (w := wr) (a := ⟨b, off + j, none⟩) (heap_setCell_other _ _ _ _ (by show b ≠ w.heap.size; omega))]
        exact hcx
      clear hcell ex HI HI' EY EY' hm ej
      go_wp2
      go_roundw
      case rel =>
        refine ⟨(j : Int) - 1, x, by omega, by omega, hx, rfl, rfl, ?_, ?_⟩
        · show x = _
          rw [show ((j : Int) - 1 + 1).toNat = j from by omega, EX.out]
          simp [hjx]
        · rw [show ((j : Int) - 1 + 1).toNat = j from by omega]
          refine LowInv.step HJ.out hjx x y EX.out EY2.out _ ?_
          rw [shr_cast, ← HM.out]
          omega
      case measure => simp [intOf]
end Go.Proofs.YtfhamfgcjdhmdaaDoor
