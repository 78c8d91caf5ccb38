/- frac: bits, bitsFrom. -/
import Derived.Test.YtfhamfgcjdhmdaaDoorFDiv3
namespace Go.Proofs.YtfhamfgcjdhmdaaDoor
open Go.RowKit
set_option linter.unusedVariables false

/-- n has k bits. -/
def BitsOf (n k : Nat) : Prop := (n = 0 ∧ k = 0) ∨ (1 ≤ k ∧ 2 ^ (k - 1) ≤ n ∧ n < 2 ^ k)

theorem pow32 (k : Nat) : 4294967296 ^ k = 2 ^ (32 * k) := by rw [Nat.pow_mul]

theorem top_bits {xs : List Nat} {t : Nat} (sx : Sm xs) (hx0 : 0 < xs.length) (et : xs[xs.length - 1]? = some t) (h0 : 0 < t) : BitsOf (val xs) (32 * (xs.length - 1) + Lib.bitLen t) := by
  obtain ⟨hlt, hte⟩ := List.getElem?_eq_some_iff.1 et
  have htb := sx.get _ hlt
  rw [hte] at htb
  obtain ⟨b1, b2, b3, b4⟩ := bitLen_at t h0 htb
  have e1 := val_take_succ xs (xs.length - 1) hlt
  rw [List.take_of_length_le (by omega), hte] at e1
  have hlo := val_lt (sx.take (xs.length - 1))
  rw [List.length_take, show min (xs.length - 1) xs.length = xs.length - 1 from by omega] at hlo
  refine .inr ⟨by omega, ?_, ?_⟩
  · rw [show 32 * (xs.length - 1) + Lib.bitLen t - 1 = 32 * (xs.length - 1) + (Lib.bitLen t - 1) from by omega, Nat.pow_add, ← pow32]
    have := Nat.mul_le_mul_left (4294967296 ^ (xs.length - 1)) b3
    omega
  · rw [Nat.pow_add, ← pow32]
    have a2 : 4294967296 ^ (xs.length - 1) * (t + 1) ≤ 4294967296 ^ (xs.length - 1) * 2 ^ Lib.bitLen t := Nat.mul_le_mul_left _ b4
    rw [Nat.mul_add, Nat.mul_one] at a2
    omega

/-- What bits answers. -/
def BitsE (w : World) (n L : Nat) (e : Ending) (w' : World) : Prop := ∃ k : Nat, e = .returned (.int .i64 k) ∧ BitsOf n k ∧ k ≤ 32 * L ∧ w' = w

set_option maxHeartbeats 1000000 in
theorem bits_num (va : Value) (n L : Nat) (w : World) (ha : Num w va n L) (hl : L ≤ 1000000000) :
    Calls Tryd.prog 54 #[va] w fun e w' => BitsE w n L e w' := by
  obtain ⟨xs, h1, h2, h3, h4⟩ := ha
  obtain ⟨ao, ca, rfl, hca, hca', Ha⟩ := h1.open
  unfold maxLen at hca'
  by_cases h0 : xs.length = 0
  · have e : xs = [] := List.eq_nil_of_length_eq_zero h0
    subst e
    have HE : Hid (BitsE w n L (.returned (.int .i64 ((0 : Nat) : Int))) w) := ⟨0, rfl, .inl ⟨h3.symm, rfl⟩, by omega, rfl⟩
    clear h1 h2 h3 h4 Ha
    go_enter Tryd.func54, Tryd.ntmps54
    go_wp2
    go_ret
    exact HE.out
  · obtain ⟨t, et, ht⟩ := tr_top h2 (by intro e; rw [e] at h0; simp at h0)
    obtain ⟨b, off, rfl, hb, hc⟩ := Ha (xs.length - 1) (by omega)
    rw [(List.getElem?_eq_some_iff.1 et).2] at hc
    have htb := h1.sm.get (xs.length - 1) (by omega)
    rw [(List.getElem?_eq_some_iff.1 et).2] at htb
    obtain ⟨b1, b2, b3, b4⟩ := bitLen_at t ht htb
    have hbits := top_bits h1.sm (by omega) et ht
    have hne : (((xs.length : Nat) : Int) == 0) = false := beq_eq_false_iff_ne.2 (by omega)
    obtain ⟨j, hj⟩ : ∃ j, xs.length = j + 1 := ⟨xs.length - 1, by omega⟩
    have hc' : w.cell? ⟨b, off + j, none⟩ = some (.int .u32 (t : Nat)) := by
      rw [show j = xs.length - 1 from by omega]; exact hc
    obtain ⟨K, hK⟩ : ∃ K, K = Lib.bitLen t := ⟨_, rfl⟩
    rw [← hK] at b1 b2 hbits
    have HE : Hid (BitsE w n L (.returned (.int .i64 ((32 * (xs.length - 1) + K : Nat) : Int))) w) := ⟨_, rfl, by rw [← h3]; exact hbits, by omega, rfl⟩
    have HJ := hide hj
    have HK := hide hK
    clear h1 h2 h3 Ha hc et b3 b4 hbits hK
    go_enter Tryd.func54, Tryd.ntmps54
    go_wp2_with fail
    refine (Tryd.bits_Len32 (t : Int) _ (by omega) (by omega)).mono ?_
    rintro e w2 ⟨rfl, rfl⟩
    rw [Int.toNat_natCast, ← HK.out]
    go_wp2
    go_ret
    have := HE.out
    have ez : (((32 * (xs.length - 1) + K : Nat) : Int)) = 32 * (j : Int) + K := by have := HJ.out; omega
    rw [ez] at this
    exact this

theorem i64_or_nat (a b : Nat) (ha : a < 9223372036854775808) (hb : b < 9223372036854775808) : bits .or .i64 (a : Int) (b : Int) = ((a ||| b : Nat) : Int) := by
  have hx : a ||| b < 2 ^ 63 := Nat.or_lt_two_pow (by omega) (by omega)
  show IntKind.i64.wrap ((BitVec.ofInt 64 (a : Int) ||| BitVec.ofInt 64 (b : Int)).toNat : Int) = _
  rw [BitVec.toNat_or, ofInt_u64 a (by omega), ofInt_u64 b (by omega)]
  rw [IntWalk.i64_in _ ⟨by omega, by omega⟩]

theorem or_sword (r x : Nat) (hr : r < 2147483648) (hx : x < 4294967296) : bits .or .i64 ((r : Int) * 4294967296) (x : Int) = ((r * 4294967296 + x : Nat) : Int) := by
  have h := i64_or_nat (r * 4294967296) x (by omega) (by omega)
  rw [Int.natCast_mul] at h
  have e : (r * 4294967296) ||| x = r * 4294967296 + x := nat_join 32 _ _ (by omega) (by omega)
  rw [e] at h
  exact h

/-- The end of bitsFrom. -/
theorem from_end (xs : List Nat) (lo s : Nat) (sx : Sm xs) (hlo : lo < xs.length) (hs : s < 32) : val xs / 2 ^ (32 * lo + s) = val (xs.drop (lo + 1)) * 2 ^ (32 - s) + xs[lo] / 2 ^ s ∧ xs[lo] / 2 ^ s < 2 ^ (32 - s) := by
  have hx := sx.get lo hlo
  have p : 2 ^ s * 2 ^ (32 - s) = 4294967296 := by rw [← Nat.pow_add, show s + (32 - s) = 32 from by omega]
  constructor
  · rw [Nat.pow_add, ← Nat.div_div_eq_div_mul, ← pow32, val_drop xs lo sx (by omega), val_drop_succ xs lo]
    have e : xs.getD lo 0 = xs[lo] := by simp [hlo]
    rw [e, ← p, Nat.mul_assoc, Nat.add_mul_div_left _ _ (Nat.two_pow_pos s), Nat.mul_comm (val _), Nat.add_comm]
  · rw [Nat.div_lt_iff_lt_mul (Nat.two_pow_pos s), Nat.mul_comm, p]
    exact hx

theorem from_last (s x o V : Nat) (hs : s < 32) (hV : V = o * 2 ^ (32 - s) + x / 2 ^ s) (h2 : x / 2 ^ s < 2 ^ (32 - s)) (hb : V < 4611686018427387904) :
    ∃ T p r : Nat, 1 ≤ T ∧ T ≤ 32 ∧ 32 - (s : Int) = (T : Int) ∧ (o : Int) * 2 ^ T = (p : Int) ∧ (x : Int) / 2 ^ s = (r : Int) ∧ bits .or .i64 (p : Int) (r : Int) = (V : Int) ∧ p ≤ V ∧ r ≤ V ∧ V < 4611686018427387904 := by
  have hmod : o * 2 ^ (32 - s) % 2 ^ (32 - s) = 0 := by rw [Nat.mul_mod_left]
  refine ⟨32 - s, o * 2 ^ (32 - s), x / 2 ^ s, by omega, by omega, by omega, ?_, shr_cast x s, ?_, ?_, ?_, hb⟩
  · rw [Int.natCast_mul, Int.natCast_pow]; rfl
  · have j := nat_join (32 - s) _ _ hmod h2
    generalize o * 2 ^ (32 - s) = p at *
    generalize x / 2 ^ s = r at *
    clear h2 hmod
    rw [i64_or_nat _ _ (by omega) (by omega), j, hV]
  · rw [hV]; exact Nat.le_add_right _ _
  · rw [hV]; exact Nat.le_add_left _ _

/-- bitsFrom's loop. -/
def FromR (xs : List Nat) (lo : Nat) (ov iv : Value) : Prop := ∃ (z : Int) (o : Nat), lo ≤ z ∧ z < xs.length ∧ iv = .int .i64 z ∧ ov = .int .i64 (o : Nat) ∧ Hid (o = val (xs.drop (z + 1).toNat))

theorem drop_le (xs : List Nat) (i j : Nat) (h : i ≤ j) (hj : j ≤ xs.length) (sx : Sm xs) : val (xs.drop j) ≤ val (xs.drop i) := by
  have e : xs.drop j = (xs.drop i).drop (j - i) := by rw [List.drop_drop]; congr 1; omega
  rw [e, ← val_drop (xs.drop i) (j - i) (sx.drop i) (by rw [List.length_drop]; omega)]
  exact Nat.div_le_self _ _

set_option maxHeartbeats 1000000 in
theorem bitsFrom_ws (va : Value) (xs : List Nat) (bit : Nat) (w : World) (ha : Ws w va xs) (hb : val xs / 2 ^ bit < 4611686018427387904) (hbit : bit ≤ 40000000000) :
    Calls Tryd.prog 57 #[va, .int .i64 (bit : Nat)] w fun e w' => e = .returned (.int .i64 ((val xs / 2 ^ bit : Nat) : Int)) ∧ ∃ q, w' = w.drewN q := by
  obtain ⟨ao, ca, rfl, hca, hca', Ha⟩ := ha.open
  unfold maxLen at hca'
  obtain ⟨lo, hlo⟩ : ∃ lo, lo = bit / 32 := ⟨_, rfl⟩
  obtain ⟨s, hs⟩ : ∃ s, s = bit % 32 := ⟨_, rfl⟩
  have hs32 : s < 32 := by omega
  have hbs : bit = 32 * lo + s := by omega
  have e1 : ((bit : Nat) : Int) / 32 = (lo : Int) := by omega
  have e2 : ((bit : Nat) : Int) % 32 = (s : Int) := by omega
  have d1 : ((bit : Nat) : Int).tdiv 32 = (lo : Int) := by rw [Int.tdiv_eq_ediv_of_nonneg (by omega)]; exact e1
  have d2 : ((bit : Nat) : Int).tmod 32 = (s : Int) := by rw [Int.tmod_eq_emod_of_nonneg (by omega)]; exact e2
  by_cases hl : lo < xs.length
  · obtain ⟨f1, f2⟩ := from_end xs lo s ha.sm hl hs32
    rw [← hbs] at f1
    rw [f1]
    rw [f1] at hb
    have HB := hide hb
    have HA := hide Ha
    have SA := hide ha.sm
    have hd1 : val (xs.drop (lo + 1)) < 2305843009213693952 := by
      have p : 2 ≤ 2 ^ (32 - s) := by
        have := Nat.pow_le_pow_right (n := 2) (by decide) (show 1 ≤ 32 - s by omega)
        omega
      have := Nat.mul_le_mul_left (val (xs.drop (lo + 1))) p
      generalize xs[lo] / 2 ^ s = r at hb
      omega
    have HD1 := hide hd1
    obtain ⟨b, off, rfl, hbb, hcell⟩ := Ha lo hl
    obtain ⟨x, ex⟩ : ∃ x, x = xs[lo] := ⟨_, rfl⟩
    have hx := ha.sm.get lo hl
    rw [← ex] at hcell hx f2 ⊢
    rw [← ex] at HB
    have F2 := hide f2
    obtain ⟨V, hV⟩ : ∃ V, V = val (xs.drop (lo + 1)) * 2 ^ (32 - s) + x / 2 ^ s := ⟨_, rfl⟩
    rw [← hV]
    have HV := hide hV
    clear Ha ha hb f1 f2 hlo hs hbs hd1 ex hV
    go_enter Tryd.func57, Tryd.ntmps57
    go_wp2
    clear e1 e2 d1 d2
    go_loop [7, 8] (fun ov iv => Hid (FromR xs lo ov iv)) (fun _ iv => (intOf iv).toNat - lo)
    case atStart => exact ⟨(xs.length : Int) - 1, 0, by omega, by omega, by go_num, rfl, by rw [show ((xs.length : Int) - 1 + 1).toNat = xs.length from by omega, List.drop_of_length_le (Nat.le_refl _)]; rfl⟩
    case round =>
      obtain ⟨z, o, hz1, hz2, rfl, rfl, HO⟩ := hrel.out
      clear hrel
      obtain ⟨j, rfl⟩ : ∃ j : Nat, z = j := ⟨z.toNat, by omega⟩
      have ho : o < 2305843009213693952 := by
        have h1 := HO.out
        rw [show ((j : Int) + 1).toNat = j + 1 from by omega] at h1
        have h2 := drop_le xs (lo + 1) (j + 1) (by omega) (by omega) SA.out
        have := HD1.out
        omega
      by_cases hj : lo < j
      · obtain ⟨b', off', e, hb', hc'⟩ := HA.out j (by omega)
        simp only [Option.some.injEq, Addr.mk.injEq, and_true] at e
        obtain ⟨rfl, rfl⟩ := e
        obtain ⟨y, ey⟩ : ∃ y, y = xs[j]'(by omega) := ⟨_, rfl⟩
        have hy := SA.out.get j (by omega)
        rw [← ey] at hc' hy
        have hstep : o * 4294967296 + y = val (xs.drop j) := by
          have h1 := HO.out
          rw [show ((j : Int) + 1).toNat = j + 1 from by omega] at h1
          rw [val_drop_succ xs j, ← h1, show xs.getD j 0 = y from by rw [ey]; simp [show j < xs.length from by omega]]
          omega
        have ho2 : o < 2147483648 := by
          have h2 := drop_le xs (lo + 1) j (by omega) (by omega) SA.out
          have := HD1.out
          omega
        obtain ⟨P, hP⟩ : ∃ P : Nat, P = o * 4294967296 := ⟨_, rfl⟩
        obtain ⟨M, hM⟩ : ∃ M : Nat, M = o * 4294967296 + y := ⟨_, rfl⟩
        have hP2 : (o : Int) * 4294967296 = (P : Int) := by omega
        have hPb : P < 9223372036854775808 := by omega
        have hMb : M < 9223372036854775808 := by omega
        have HOR := hide (or_sword o y ho2 hy)
        rw [← hM] at HOR
        rw [hP2] at HOR
        rw [← hM] at hstep
        clear hP hM
        have HS := hide hstep
        clear hstep ey
        go_wp2
        go_round
        case rel => exact ⟨(j : Int) - 1, M, by omega, by omega, by go_num, congrArg (Value.int .i64) HOR.out, by rw [show ((j : Int) - 1 + 1).toNat = j from by omega]; exact HS.out⟩
        case measure => simp [intOf]; omega
      · obtain rfl : j = lo := by omega
        have HO2 : Hid (o = val (xs.drop (j + 1))) := by
          have h1 := HO.out
          rw [show ((j : Int) + 1).toNat = j + 1 from by omega] at h1
          exact h1
        obtain ⟨T, p, r, t1, t2, t3, t4, t5, t6, t7, t8, t9⟩ := from_last s x o V hs32 (by rw [HO2.out]; exact HV.out) F2.out (by rw [HV.out]; exact HB.out)
        have T6 := hide t6
        clear HB HD1 HO HO2 HV F2 HA SA t6
        go_wp2
        go_quiet (fail)
        go_wp2
        go_ret
        exact ⟨congrArg (fun z => Ending.returned (Value.int .i64 z)) T6.out, _, by first | rfl | (simp only [World.drewN_drewN]; rfl)⟩
  · have hz : val xs / 2 ^ bit = 0 := by
      apply Nat.div_eq_of_lt
      have h1 := val_lt ha.sm
      rw [pow32] at h1
      exact Nat.lt_of_lt_of_le h1 (Nat.pow_le_pow_right (by decide) (by omega))
    rw [hz]
    clear Ha ha hb hlo hs hbs hz
    go_enter Tryd.func57, Tryd.ntmps57
    go_wp2
    go_ret
    exact ⟨rfl, 0, rfl⟩
end Go.Proofs.YtfhamfgcjdhmdaaDoor
