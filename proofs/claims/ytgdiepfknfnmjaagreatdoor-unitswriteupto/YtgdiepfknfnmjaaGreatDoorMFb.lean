/- frac: bits, bitsFrom. -/
import Derived.Test.YtgdiepfknfnmjaaGreatDoorFDiv3
import Derived.Test.YtgdiepfknfnmjaaGreatDoorMFa
import Derived.Test.YtgdiepfknfnmjaaGreatDoorFDiv
namespace Go.Proofs.YtgdiepfknfnmjaaGreatDoor
open Go.RowKit
set_option linter.unusedVariables false

/-- n has k bits. -/
def BitsOf (n k : Nat) : Prop := (n = 0 ∧ k = 0) ∨ (1 ≤ k ∧ 2 ^ (k - 1) ≤ n ∧ n < 2 ^ k)

theorem pow32 (k : Nat) : 4294967296 ^ k = 2 ^ (32 * k) := by rw [Nat.pow_mul]

theorem top_bits {xs : List Nat} {t : Nat} (sx : Sm xs) (hx0 : 0 < xs.length) (et : xs[xs.length - 1]? = some t) (h0 : 0 < t) : BitsOf (val xs) (32 * (xs.length - 1) + Lib.bitLen t) := by
  obtain ⟨hlt, hte⟩ := List.getElem?_eq_some_iff.1 et
  have htb := sx.get _ hlt
  rw [hte] at htb
  obtain ⟨b1, b2, b3, b4⟩ := bitLen_at t h0 htb
  have e1 := val_take_succ xs (xs.length - 1) hlt
  rw [List.take_of_length_le (by omega), hte] at e1
  have hlo := val_lt (sx.take (xs.length - 1))
  rw [List.length_take, show min (xs.length - 1) xs.length = xs.length - 1 from by omega] at hlo
  refine .inr ⟨by omega, ?_, ?_⟩
  · rw [show 32 * (xs.length - 1) + Lib.bitLen t - 1 = 32 * (xs.length - 1) + (Lib.bitLen t - 1) from by omega, Nat.pow_add, ← pow32]
    have := Nat.mul_le_mul_left (4294967296 ^ (xs.length - 1)) b3
    omega
  · rw [Nat.pow_add, ← pow32]
    have a2 : 4294967296 ^ (xs.length - 1) * (t + 1) ≤ 4294967296 ^ (xs.length - 1) * 2 ^ Lib.bitLen t := Nat.mul_le_mul_left _ b4
    rw [Nat.mul_add, Nat.mul_one] at a2
    omega

/-- What bits answers. -/
def BitsE (w : World) (n L : Nat) (e : Ending) (w' : World) : Prop := ∃ k : Nat, e = .returned (.int .i64 k) ∧ BitsOf n k ∧ k ≤ 32 * L ∧ w' = w

set_option maxHeartbeats 1000000 in
theorem bits_num (va : Value) (n L : Nat) (w : World) (ha : Num w va n L) (hl : L ≤ 1000000000) :
    Calls Tryz.prog 106 #[va] w fun e w' => BitsE w n L e w' := by
  obtain ⟨xs, h1, h2, h3, h4⟩ := ha
  obtain ⟨ao, ca, rfl, hca, hca', Ha⟩ := h1.open
  unfold maxLen at hca'
  by_cases h0 : xs.length = 0
  · have e : xs = [] := List.eq_nil_of_length_eq_zero h0
    subst e
    have HE : Hid (BitsE w n L (.returned (.int .i64 ((0 : Nat) : Int))) w) := ⟨0, rfl, .inl ⟨h3.symm, rfl⟩, by omega, rfl⟩
    clear h1 h2 h3 h4 Ha
    go_enter Tryz.func106, Tryz.ntmps106
    go_wp2
    go_ret
    exact HE.out
  · obtain ⟨t, et, ht⟩ := tr_top h2 (by intro e; rw [e] at h0; simp at h0)
    obtain ⟨b, off, rfl, hb, hc⟩ := Ha (xs.length - 1) (by omega)
    rw [(List.getElem?_eq_some_iff.1 et).2] at hc
    have htb := h1.sm.get (xs.length - 1) (by omega)
    rw [(List.getElem?_eq_some_iff.1 et).2] at htb
    obtain ⟨b1, b2, b3, b4⟩ := bitLen_at t ht htb
    have hbits := top_bits h1.sm (by omega) et ht
    have hne : (((xs.length : Nat) : Int) == 0) = false := beq_eq_false_iff_ne.2 (by omega)
    obtain ⟨j, hj⟩ : ∃ j, xs.length = j + 1 := ⟨xs.length - 1, by omega⟩
    have hc' : w.cell? ⟨b, off + j, none⟩ = some (.int .u32 (t : Nat)) := by
      rw [show j = xs.length - 1 from by omega]; exact hc
    obtain ⟨K, hK⟩ : ∃ K, K = Lib.bitLen t := ⟨_, rfl⟩
    rw [← hK] at b1 b2 hbits
    have HE : Hid (BitsE w n L (.returned (.int .i64 ((32 * (xs.length - 1) + K : Nat) : Int))) w) := ⟨_, rfl, by rw [← h3]; exact hbits, by omega, rfl⟩
    have HJ := hide hj
    have HK := hide hK
    clear h1 h2 h3 Ha hc et b3 b4 hbits hK
    go_enter Tryz.func106, Tryz.ntmps106
    go_wp2_with fail
    refine (Tryz.bits_Len32 (t : Int) _ (by omega) (by omega)).mono ?_
    rintro e w2 ⟨rfl, rfl⟩
    rw [Int.toNat_natCast, ← HK.out]
    go_wp2
    go_ret
    have := HE.out
    have ez : (((32 * (xs.length - 1) + K : Nat) : Int)) = 32 * (j : Int) + K := by have := HJ.out; omega
    rw [ez] at this
    exact this

theorem i64_or_nat (a b : Nat) (ha : a < 9223372036854775808) (hb : b < 9223372036854775808) : bits .or .i64 (a : Int) (b : Int) = ((a ||| b : Nat) : Int) := by
  have hx : a ||| b < 2 ^ 63 := Nat.or_lt_two_pow (by omega) (by omega)
  show IntKind.i64.wrap ((BitVec.ofInt 64 (a : Int) ||| BitVec.ofInt 64 (b : Int)).toNat : Int) = _
  rw [BitVec.toNat_or, ofInt_u64 a (by omega), ofInt_u64 b (by omega)]
  rw [IntWalk.i64_in _ ⟨by omega, by omega⟩]

theorem or_sword (r x : Nat) (hr : r < 2147483648) (hx : x < 4294967296) : bits .or .i64 ((r : Int) * 4294967296) (x : Int) = ((r * 4294967296 + x : Nat) : Int) := by
  have h := i64_or_nat (r * 4294967296) x (by omega) (by omega)
  rw [Int.natCast_mul] at h
  have e : (r * 4294967296) ||| x = r * 4294967296 + x := nat_join 32 _ _ (by omega) (by omega)
  rw [e] at h
  exact h

/-- The end of bitsFrom. -/
theorem from_end (xs : List Nat) (lo s : Nat) (sx : Sm xs) (hlo : lo < xs.length) (hs : s < 32) : val xs / 2 ^ (32 * lo + s) = val (xs.drop (lo + 1)) * 2 ^ (32 - s) + xs[lo] / 2 ^ s ∧ xs[lo] / 2 ^ s < 2 ^ (32 - s) := by
  have hx := sx.get lo hlo
  have p : 2 ^ s * 2 ^ (32 - s) = 4294967296 := by rw [← Nat.pow_add, show s + (32 - s) = 32 from by omega]
  constructor
  · rw [Nat.pow_add, ← Nat.div_div_eq_div_mul, ← pow32, val_drop xs lo sx (by omega), val_drop_succ xs lo]
    have e : xs.getD lo 0 = xs[lo] := by simp [hlo]
    rw [e, ← p, Nat.mul_assoc, Nat.add_mul_div_left _ _ (Nat.two_pow_pos s), Nat.mul_comm (val _), Nat.add_comm]
  · rw [Nat.div_lt_iff_lt_mul (Nat.two_pow_pos s), Nat.mul_comm, p]
    exact hx

theorem from_last (s x o V : Nat) (hs : s < 32) (hV : V = o * 2 ^ (32 - s) + x / 2 ^ s) (h2 : x / 2 ^ s < 2 ^ (32 - s)) (hb : V < 4611686018427387904) :
    ∃ T p r : Nat, 1 ≤ T ∧ T ≤ 32 ∧ 32 - (s : Int) = (T : Int) ∧ (o : Int) * 2 ^ T = (p : Int) ∧ (x : Int) / 2 ^ s = (r : Int) ∧ bits .or .i64 (p : Int) (r : Int) = (V : Int) ∧ p ≤ V ∧ r ≤ V ∧ V < 4611686018427387904 := by
  have hmod : o * 2 ^ (32 - s) % 2 ^ (32 - s) = 0 := by rw [Nat.mul_mod_left]
  refine ⟨32 - s, o * 2 ^ (32 - s), x / 2 ^ s, by omega, by omega, by omega, ?_, shr_cast x s, ?_, ?_, ?_, hb⟩
  · rw [Int.natCast_mul, Int.natCast_pow]; rfl
  · have j := nat_join (32 - s) _ _ hmod h2
    generalize o * 2 ^ (32 - s) = p at *
    generalize x / 2 ^ s = r at *
    clear h2 hmod
    rw [i64_or_nat _ _ (by omega) (by omega), j, hV]
  · rw [hV]; exact Nat.le_add_right _ _
  · rw [hV]; exact Nat.le_add_left _ _

/-- bitsFrom's loop. -/
def FromR (xs : List Nat) (lo : Nat) (ov iv : Value) : Prop := ∃ (z : Int) (o : Nat), lo ≤ z ∧ z < xs.length ∧ iv = .int .i64 z ∧ ov = .int .i64 (o : Nat) ∧ Hid (o = val (xs.drop (z + 1).toNat))

theorem drop_le (xs : List Nat) (i j : Nat) (h : i ≤ j) (hj : j ≤ xs.length) (sx : Sm xs) : val (xs.drop j) ≤ val (xs.drop i) := by
  have e : xs.drop j = (xs.drop i).drop (j - i) := by rw [List.drop_drop]; congr 1; omega
  rw [e, ← val_drop (xs.drop i) (j - i) (sx.drop i) (by rw [List.length_drop]; omega)]
  exact Nat.div_le_self _ _

set_option maxHeartbeats 1000000 in
theorem bitsFrom_ws (va : Value) (xs : List Nat) (bit : Nat) (w : World) (ha : Ws w va xs) (hb : val xs / 2 ^ bit < 4611686018427387904) (hbit : bit ≤ 40000000000) :
    Calls Tryz.prog 109 #[va, .int .i64 (bit : Nat)] w fun e w' => e = .returned (.int .i64 ((val xs / 2 ^ bit : Nat) : Int)) ∧ ∃ q, w' = w.drewN q := by
  obtain ⟨ao, ca, rfl, hca, hca', Ha⟩ := ha.open
  unfold maxLen at hca'
  obtain ⟨lo, hlo⟩ : ∃ lo, lo = bit / 32 := ⟨_, rfl⟩
  obtain ⟨s, hs⟩ : ∃ s, s = bit % 32 := ⟨_, rfl⟩
  have hs32 : s < 32 := by omega
  have hbs : bit = 32 * lo + s := by omega
  have e1 : ((bit : Nat) : Int) / 32 = (lo : Int) := by omega
  have e2 : ((bit : Nat) : Int) % 32 = (s : Int) := by omega
  have d1 : ((bit : Nat) : Int).tdiv 32 = (lo : Int) := by rw [Int.tdiv_eq_ediv_of_nonneg (by omega)]; exact e1
  have d2 : ((bit : Nat) : Int).tmod 32 = (s : Int) := by rw [Int.tmod_eq_emod_of_nonneg (by omega)]; exact e2
  by_cases hl : lo < xs.length
  · obtain ⟨f1, f2⟩ := from_end xs lo s ha.sm hl hs32
    rw [← hbs] at f1
    rw [f1]
    rw [f1] at hb
    have HB := hide hb
    have HA := hide Ha
    have SA := hide ha.sm
    have hd1 : val (xs.drop (lo + 1)) < 2305843009213693952 := by
      have p : 2 ≤ 2 ^ (32 - s) := by
        have := Nat.pow_le_pow_right (n := 2) (by decide) (show 1 ≤ 32 - s by omega)
        omega
      have := Nat.mul_le_mul_left (val (xs.drop (lo + 1))) p
      generalize xs[lo] / 2 ^ s = r at hb
      omega
    have HD1 := hide hd1
    obtain ⟨b, off, rfl, hbb, hcell⟩ := Ha lo hl
    obtain ⟨x, ex⟩ : ∃ x, x = xs[lo] := ⟨_, rfl⟩
    have hx := ha.sm.get lo hl
    rw [← ex] at hcell hx f2 ⊢
    rw [← ex] at HB
    have F2 := hide f2
    obtain ⟨V, hV⟩ : ∃ V, V = val (xs.drop (lo + 1)) * 2 ^ (32 - s) + x / 2 ^ s := ⟨_, rfl⟩
    rw [← hV]
    have HV := hide hV
    clear Ha ha hb f1 f2 hlo hs hbs hd1 ex hV
    go_enter Tryz.func109, Tryz.ntmps109
    go_wp2
    clear e1 e2 d1 d2
    go_loop [7, 8] (fun ov iv => Hid (FromR xs lo ov iv)) (fun _ iv => (intOf iv).toNat - lo)
    case atStart => exact ⟨(xs.length : Int) - 1, 0, by omega, by omega, by go_num, rfl, by rw [show ((xs.length : Int) - 1 + 1).toNat = xs.length from by omega, List.drop_of_length_le (Nat.le_refl _)]; rfl⟩
    case round =>
      obtain ⟨z, o, hz1, hz2, rfl, rfl, HO⟩ := hrel.out
      clear hrel
      obtain ⟨j, rfl⟩ : ∃ j : Nat, z = j := ⟨z.toNat, by omega⟩
      have ho : o < 2305843009213693952 := by
        have h1 := HO.out
        rw [show ((j : Int) + 1).toNat = j + 1 from by omega] at h1
        have h2 := drop_le xs (lo + 1) (j + 1) (by omega) (by omega) SA.out
        have := HD1.out
        omega
      by_cases hj : lo < j
      · obtain ⟨b', off', e, hb', hc'⟩ := HA.out j (by omega)
        simp only [Option.some.injEq, Addr.mk.injEq, and_true] at e
        obtain ⟨rfl, rfl⟩ := e
        obtain ⟨y, ey⟩ : ∃ y, y = xs[j]'(by omega) := ⟨_, rfl⟩
        have hy := SA.out.get j (by omega)
        rw [← ey] at hc' hy
        have hstep : o * 4294967296 + y = val (xs.drop j) := by
          have h1 := HO.out
          rw [show ((j : Int) + 1).toNat = j + 1 from by omega] at h1
          rw [val_drop_succ xs j, ← h1, show xs.getD j 0 = y from by rw [ey]; simp [show j < xs.length from by omega]]
          omega
        have ho2 : o < 2147483648 := by
          have h2 := drop_le xs (lo + 1) j (by omega) (by omega) SA.out
          have := HD1.out
          omega
        obtain ⟨P, hP⟩ : ∃ P : Nat, P = o * 4294967296 := ⟨_, rfl⟩
        obtain ⟨M, hM⟩ : ∃ M : Nat, M = o * 4294967296 + y := ⟨_, rfl⟩
        have hP2 : (o : Int) * 4294967296 = (P : Int) := by omega
        have hPb : P < 9223372036854775808 := by omega
        have hMb : M < 9223372036854775808 := by omega
        have HOR := hide (or_sword o y ho2 hy)
        rw [← hM] at HOR
        rw [hP2] at HOR
        rw [← hM] at hstep
        clear hP hM
        have HS := hide hstep
        clear hstep ey
        go_wp2
        go_round
        case rel => exact ⟨(j : Int) - 1, M, by omega, by omega, by go_num, congrArg (Value.int .i64) HOR.out, by rw [show ((j : Int) - 1 + 1).toNat = j from by omega]; exact HS.out⟩
        case measure => simp [intOf]; omega
      · obtain rfl : j = lo := by omega
        have HO2 : Hid (o = val (xs.drop (j + 1))) := by
          have h1 := HO.out
          rw [show ((j : Int) + 1).toNat = j + 1 from by omega] at h1
          exact h1
        obtain ⟨T, p, r, t1, t2, t3, t4, t5, t6, t7, t8, t9⟩ := from_last s x o V hs32 (by rw [HO2.out]; exact HV.out) F2.out (by rw [HV.out]; exact HB.out)
        have T6 := hide t6
        clear HB HD1 HO HO2 HV F2 HA SA t6
        go_wp2
        go_quiet (fail)
        go_wp2
        go_ret
        exact ⟨congrArg (fun z => Ending.returned (Value.int .i64 z)) T6.out, _, by first | rfl | (simp only [World.drewN_drewN]; rfl)⟩
  · have hz : val xs / 2 ^ bit = 0 := by
      apply Nat.div_eq_of_lt
      have h1 := val_lt ha.sm
      rw [pow32] at h1
      exact Nat.lt_of_lt_of_le h1 (Nat.pow_le_pow_right (by decide) (by omega))
    rw [hz]
    clear Ha ha hb hlo hs hbs hz
    go_enter Tryz.func109, Tryz.ntmps109
    go_wp2
    go_ret
    exact ⟨rfl, 0, rfl⟩
end Go.Proofs.YtgdiepfknfnmjaaGreatDoor

namespace Go.Proofs.YtgdiepfknfnmjaaGreatDoor
open Go.RowKit
set_option linter.unusedVariables false

theorem len_of_lt {xs : List Nat} {L : Nat} (ht : Tr xs) (h : val xs < 4294967296 ^ L) : xs.length ≤ L := by
  by_cases hx : xs = []
  · subst hx; simp
  · have h1 := tr_ge ht hx
    have h2 : xs.length - 1 < L := (Nat.pow_lt_pow_iff_right (a := 4294967296) (by decide)).1 (Nat.lt_of_le_of_lt h1 h)
    have : 0 < xs.length := List.length_pos_iff.2 hx
    omega

/-- A number's length is its value's. -/
theorem OwnN.tight {w : World} {base : Nat} {v : Value} {n L L' : Nat} (h : OwnN w base v n L) (hn : n < 4294967296 ^ L') : OwnN w base v n L' := by
  obtain ⟨xs, h1, h2, h3, h4, h5⟩ := h
  exact ⟨xs, h1, h2, h3, h4, len_of_lt h3 (by rw [h4]; exact hn)⟩

theorem Num.tight {w : World} {v : Value} {n L L' : Nat} (h : Num w v n L) (hn : n < 4294967296 ^ L') : Num w v n L' := by
  obtain ⟨xs, h1, h2, h3, h4⟩ := h
  exact ⟨xs, h1, h2, h3, len_of_lt h2 (by rw [h3]; exact hn)⟩

theorem pow_small (b m : Nat) (hb : b < 4294967296) : b ^ m < 4294967296 ^ (m + 1) := by
  have h1 : b ^ m ≤ 4294967296 ^ m := Nat.pow_le_pow_left (by omega) m
  have h2 : 4294967296 ^ m < 4294967296 ^ (m + 1) := (Nat.pow_lt_pow_iff_right (by decide)).2 (by omega)
  omega

theorem gr_own2 {w w1 w2 : World} {r : Option Nat} (h : w.grownBy w1 none) (k : w1.grownBy w2 r) (hb : ∀ b, r = some b → w.heap.size ≤ b) : w.grownBy w2 none :=
  gr_trans h k (fun _ _ e => e) (fun b hb' e => by have := hb b e.symm; omega)

theorem OwnN.shape {w : World} {base : Nat} {v : Value} {n L : Nat} (h : OwnN w base v n L) : ∃ o l c, v = .slice o l c := by
  obtain ⟨xs, h1, _⟩ := h
  obtain ⟨ao, cap, e, _⟩ := h1.open
  exact ⟨_, _, _, e⟩

/-- grow, of a number. -/
theorem grow_num (v : Value) (n b m L : Nat) (w : World) (base : Nat) (h : OwnN w base v n L) (hb : b < 4294967296) (hb0 : 0 < b) (hm : m < 4294967296) (hl : L ≤ 1000000000) (hbase : base ≤ w.heap.size) :
    Calls Tryz.prog 79 #[v, .int .u32 (b : Nat), .int .u32 (m : Nat)] w fun e w' => ∃ v', e = .returned v' ∧ OwnN w' base v' (n * b + m) (L + 1) ∧ w.grownBy w' (blockOf v) := by
  obtain ⟨xs, h1, h2, h3, h4, h5⟩ := h
  refine (grow_own v xs b m w base h1 h2 hb hm (by omega) hbase).mono ?_
  rintro e w' ⟨v', rfl, ys, o1, o2, o3, o4, o5, o6⟩
  exact ⟨v', rfl, ⟨ys, o1, o2, o6 h3 hb0, by rw [o3, h4], by omega⟩, o5⟩
end Go.Proofs.YtgdiepfknfnmjaaGreatDoor

namespace Go.Proofs.YtgdiepfknfnmjaaGreatDoor
open Go.RowKit
set_option linter.unusedVariables false

/-- power, on its way: the bits from k on are done. -/
def PowR (w : World) (b n g : Nat) (ov iv : Value) (wr : World) : Prop :=
  ∃ k : Nat, k ≤ 63 ∧ iv = .int .i64 ((k : Int) - 1) ∧ OwnN wr w.heap.size ov (b ^ (n / 2 ^ k)) (n / 2 ^ k + 1) ∧ w.grownBy wr none ∧ k = g

theorem i64_and_nat (a b : Nat) (ha : a < 9223372036854775808) (hb : b < 9223372036854775808) : bits .and .i64 (a : Int) (b : Int) = ((a &&& b : Nat) : Int) := by
  have hx : a &&& b < 2 ^ 63 := Nat.lt_of_le_of_lt Nat.and_le_left (by omega)
  show IntKind.i64.wrap ((BitVec.ofInt 64 (a : Int) &&& BitVec.ofInt 64 (b : Int)).toNat : Int) = _
  rw [BitVec.toNat_and, ofInt_u64 a (by omega), ofInt_u64 b (by omega)]
  rw [IntWalk.i64_in _ ⟨by omega, by omega⟩]

theorem bits_and (n i : Nat) (hn : n < 9223372036854775808) : bits .and .i64 ((n / 2 ^ i : Nat) : Int) 1 = ((n / 2 ^ i % 2 : Nat) : Int) := by
  have h1 : n / 2 ^ i < 9223372036854775808 := Nat.lt_of_le_of_lt (Nat.div_le_self _ _) hn
  have := i64_and_nat (n / 2 ^ i) 1 h1 (by decide)
  rw [Nat.and_one_is_mod] at this
  exact this

theorem half_pow (n k : Nat) : n / 2 ^ k = 2 * (n / 2 ^ (k + 1)) + n / 2 ^ k % 2 := by
  rw [Nat.pow_succ, ← Nat.div_div_eq_div_mul]
  omega

theorem own_one (w : World) : OwnN (w.alloc (Obj.cells #[Value.int IntKind.u32 1] 96)) w.heap.size (.slice (some ⟨w.heap.size, 0, none⟩) 1 1) 1 1 := by
  have ha : Arr (w.alloc (Obj.cells #[Value.int IntKind.u32 1] 96)) w.heap.size [1] := by
    unfold Arr
    show (w.heap.push _)[w.heap.size]? = _
    rw [Array.getElem?_push_size]
    rfl
  exact ⟨[1], ha.own (Nat.le_refl _) (by unfold maxLen; simp), Sm.cons (by decide) Sm.nil, by simp [Tr, trimL], by simp [val], by simp⟩

set_option maxHeartbeats 2000000 in
set_option maxRecDepth 10000 in
theorem power_at (b n : Nat) (w : World) (hb : b < 4294967296) (hb0 : 0 < b) (hn : n ≤ 100000000) :
    Calls Tryz.prog 67 #[.int .u32 (b : Nat), .int .i64 (n : Nat)] w fun e w' => ∃ v', e = .returned v' ∧ OwnN w' w.heap.size v' (b ^ n) (n + 1) ∧ w.grownBy w' none := by
  go_enter Tryz.func67, Tryz.ntmps67
  go_wp2_with fail
  refine (Tryz.bits_Len (n : Int) _ (by omega) (by omega)).mono ?_
  rintro e w1 ⟨rfl, rfl⟩
  rw [Int.toNat_natCast]
  have hbl : n < 2 ^ Lib.bitLen n ∧ Lib.bitLen n ≤ 63 := by
    by_cases h0 : n = 0
    · subst h0; decide
    · unfold Lib.bitLen
      have h1 := Lib.bitLenAux_bounds 64 n (by omega) h0
      refine ⟨h1.2.2, ?_⟩
      rcases Nat.lt_or_ge 63 (Lib.bitLenAux 64 n) with h2 | h2
      · have h3 : 2 ^ 63 ≤ 2 ^ (Lib.bitLenAux 64 n - 1) := Nat.pow_le_pow_right (by decide) (by omega)
        have h4 : (2 : Nat) ^ 63 = 9223372036854775808 := by decide
        omega
      · exact h2
  obtain ⟨m, hm⟩ : ∃ m, m = Lib.bitLen n := ⟨_, rfl⟩
  rw [← hm] at hbl ⊢
  obtain ⟨hb1, hb2⟩ := hbl
  have HM : Hid (n / 2 ^ m = 0) := Nat.div_eq_of_lt hb1
  clear hm hb1
  go_wp2
  go_loopg [5, 6] m (fun k ov iv wr => Hid (PowR w b n k ov iv wr))
  case atStart =>
    refine ⟨m, hb2, by go_num, ?_, gr_alloc (gr_refl _ _) _, rfl⟩
    rw [HM.out]
    simpa using own_one w
  case round =>
    obtain ⟨k, hk, rfl, r1, r2, rfl⟩ := hrel.out
    obtain ⟨oo, ol, oc, rfl⟩ := r1.shape
    have R1 := hide r1
    have R2 := hide r2
    clear r1 r2 hrel HM
    by_cases hk0 : k = 0
    · subst hk0
      go_wp2
      go_ret
      refine ⟨_, rfl, ?_, R2.out⟩
      have := R1.out
      rw [Nat.pow_zero, Nat.div_one] at this
      exact this
    · obtain ⟨j, rfl⟩ : ∃ j, k = j + 1 := ⟨k - 1, by omega⟩
      have ej : (((j + 1 : Nat) : Int) - 1) = (j : Int) := by omega
      rw [ej]
      have hq : n / 2 ^ (j + 1) ≤ n := Nat.div_le_self _ _
      have hp := half_pow n j
      obtain ⟨q, hq2⟩ : ∃ q, q = n / 2 ^ (j + 1) := ⟨_, rfl⟩
      rw [← hq2] at R1 hq hp
      have HP := hide hp
      clear hp hq2 ej
      go_wp2_with fail
      refine (times_own _ _ (b ^ q) (b ^ q) (q + 1) (q + 1) _ R1.out.num R1.out.num (by omega)).mono ?_
      rintro e w2 ⟨v2, rfl, t1, t2⟩
      obtain ⟨to_, tl, tc, rfl⟩ := t1.shape
      have T1 : Hid (OwnN w2 w.heap.size (.slice to_ tl tc) (b ^ (2 * q)) (2 * q + 1)) := by
        have e : b ^ q * b ^ q = b ^ (2 * q) := by rw [← Nat.pow_add]; congr 1; omega
        rw [e] at t1
        exact (t1.base R2.out.size).tight (pow_small b _ hb)
      have T2 := hide (gr_none R2.out t2)
      clear t1 t2 R1 R2
      have hcast : ((n : Int) / 2 ^ j) = ((n / 2 ^ j : Nat) : Int) := by rw [Int.natCast_ediv, Int.natCast_pow]; rfl
      have hand : bits .and .i64 ((n : Int) / 2 ^ j) 1 = ((n / 2 ^ j % 2 : Nat) : Int) := by rw [hcast]; exact bits_and n j (by omega)
      by_cases hbit : n / 2 ^ j % 2 = 1
      · have hb1 : (bits .and .i64 ((n : Int) / 2 ^ j) 1 == 1) = true := by rw [hand, hbit]; rfl
        clear hand hcast
        have HB := hide hbit
        clear hbit
        go_wp2_with fail
        refine (grow_num _ (b ^ (2 * q)) b 0 (2 * q + 1) _ w.heap.size T1.out hb hb0 (by omega) (by omega) T2.out.size).mono ?_
        rintro e w3 ⟨v3, rfl, g1, g2⟩
        obtain ⟨go_, gl, gc, rfl⟩ := g1.shape
        have G1 := hide g1
        have G3 := hide (gr_own2 T2.out g2 (fun k e => (T1.out.fresh k e).1))
        clear g1 g2
        go_wp2
        go_roundg j
        case measure => omega
        case rel =>
          refine ⟨j, by omega, by go_num, ?_, G3.out, rfl⟩
          have hp := HP.out
          rw [HB.out] at hp
          have h := G1.out
          rw [Nat.add_zero, ← Nat.pow_succ] at h
          rw [hp]
          exact h
      · have hb1 : (bits .and .i64 ((n : Int) / 2 ^ j) 1 == 1) = false := by
          rw [hand]
          refine beq_eq_false_iff_ne.2 ?_
          omega
        clear hand hcast
        have HB : Hid (n / 2 ^ j % 2 = 0) := by show _ = _; omega
        clear hbit
        go_wp2
        go_roundg j
        case measure => omega
        case rel =>
          refine ⟨j, by omega, by go_num, ?_, T2.out, rfl⟩
          have hp := HP.out
          rw [HB.out, Nat.add_zero] at hp
          rw [hp]
          exact T1.out
end Go.Proofs.YtgdiepfknfnmjaaGreatDoor

namespace Go.Proofs.YtgdiepfknfnmjaaGreatDoor
open Go.RowKit
set_option linter.unusedVariables false

/-- combine's loop: what stands of the first k words. -/
def CombInv (w wr : World) (xs ys : List Nat) (a b : Int) (k : Nat) (c : Int) : Prop :=
  ∃ done : List Nat, done.length = k ∧ Sm done ∧ Arr wr w.heap.size (done ++ List.replicate (xs.length - k) 0) ∧ w.grownBy wr none ∧
    (val done : Int) + (4294967296 ^ k : Nat) * c = a * (val (xs.take k) : Nat) + b * (val (ys.take k) : Nat)

theorem val_take_getD (ys : List Nat) (k : Nat) : val (ys.take (k + 1)) = val (ys.take k) + 4294967296 ^ k * ys.getD k 0 := by
  by_cases h : k < ys.length
  · rw [val_take_succ ys k h]; simp [h]
  · rw [List.take_of_length_le (by omega), List.take_of_length_le (by omega)]
    simp [List.getD, h]

theorem comb_alg (D p c a b X x Y y t : Int) (h : D + p * c = a * X + b * Y) (ht : t = c + a * x + b * y) : D + p * t = a * (X + p * x) + b * (Y + p * y) := by
  subst ht
  have e1 : a * (X + p * x) = a * X + p * (a * x) := by rw [Int.mul_add, Int.mul_left_comm]
  have e2 : b * (Y + p * y) = b * Y + p * (b * y) := by rw [Int.mul_add, Int.mul_left_comm]
  rw [e1, e2, Int.mul_add, Int.mul_add]
  omega

theorem CombInv.step {w wr : World} {xs ys : List Nat} {a b c : Int} {k : Nat} (h : CombInv w wr xs ys a b k c) (hk : k < xs.length) (x y : Nat) (hx : x = xs[k]) (hy : y = ys.getD k 0) (t z : Int) (ht : t = c + a * x + b * y) (hz : z = t % 4294967296) :
    CombInv w (wr.setCell ⟨w.heap.size, k, none⟩ (.int .u32 z)) xs ys a b (k + 1) (t / 4294967296) := by
  obtain ⟨done, h1, h2, h3, h4, h5⟩ := h
  obtain ⟨r, hr⟩ : ∃ r : Nat, (r : Int) = t % 4294967296 := ⟨(t % 4294967296).toNat, by omega⟩
  have hrb : r < 4294967296 := by omega
  refine ⟨done ++ [r], by simp [h1], h2.append (Sm.cons hrb Sm.nil), ?_, gr_set h4 _ _ (Nat.le_refl _), ?_⟩
  · have := h3.set k r
    rw [hz, ← hr]
    have e : (done ++ List.replicate (xs.length - k) 0).set k r = (done ++ [r]) ++ List.replicate (xs.length - (k + 1)) 0 := by
      obtain ⟨m, hm⟩ : ∃ m, xs.length - k = m + 1 := ⟨xs.length - k - 1, by omega⟩
      rw [hm, show xs.length - (k + 1) = m from by omega]
      subst h1
      rw [List.set_append_right _ _ (Nat.le_refl _)]
      simp [List.replicate_succ]
    rw [e] at this
    exact this
  · rw [val_snoc, h1, val_take_succ xs k hk, ← hx, val_take_getD ys k, ← hy]
    rw [Int.natCast_add, Int.natCast_add, Int.natCast_add, Int.natCast_mul, Int.natCast_mul, Int.natCast_mul, Nat.pow_succ, Int.natCast_mul]
    generalize ((4294967296 ^ k : Nat) : Int) = p at h5 ⊢
    have e := comb_alg _ p c a b _ (x : Int) _ (y : Int) t h5 ht
    rw [← e]
    have e2 : t = r + 4294967296 * (t / 4294967296) := by omega
    generalize t / 4294967296 = q at e2 ⊢
    rw [e2, Int.mul_add, Int.mul_assoc]
    simp only [Int.add_assoc]
    rfl

theorem prod_bd (a : Int) (x : Nat) (h1 : -1073741824 < a) (h2 : a < 1073741824) (hx : x < 4294967296) : -4611686014132420609 ≤ a * (x : Int) ∧ a * (x : Int) ≤ 4611686014132420609 := by
  have k1 : a * (x : Int) ≤ 1073741823 * (x : Int) := Int.mul_le_mul_of_nonneg_right (by omega) (by omega)
  have k2 : -1073741823 * (x : Int) ≤ a * (x : Int) := Int.mul_le_mul_of_nonneg_right (by omega) (by omega)
  omega

/-- What combine answers. -/
def CombE (w : World) (n L : Nat) (e : Ending) (w' : World) : Prop := ∃ v', e = .returned v' ∧ Num w' v' n L ∧ w.grownBy w' none ∧ Fresh w v'

theorem comb_end {w wr : World} {xs ys : List Nat} {a b c u : Int} (h : CombInv w wr xs ys a b xs.length c) (hys : ys.length ≤ xs.length) (hu : u = a * (val xs : Nat) + b * (val ys : Nat)) (h0 : 0 ≤ u) (h1 : u < (4294967296 ^ xs.length : Nat)) :
    ∃ done : List Nat, done.length = xs.length ∧ Sm done ∧ Arr wr w.heap.size done ∧ w.grownBy wr none ∧ val done = u.toNat := by
  obtain ⟨done, k1, k2, k3, k4, k5⟩ := h
  rw [Nat.sub_self, List.replicate_zero, List.append_nil] at k3
  refine ⟨done, k1, k2, k3, k4, ?_⟩
  rw [List.take_of_length_le (Nat.le_refl _), List.take_of_length_le hys, ← hu] at k5
  have hd := val_lt k2
  rw [k1] at hd
  have hp : (0 : Int) < (4294967296 ^ xs.length : Nat) := by
    have : 0 < 4294967296 ^ xs.length := Nat.pow_pos (by decide)
    omega
  generalize hP : (4294967296 ^ xs.length : Nat) = P at *
  have hc : c = 0 := by
    rcases Int.lt_trichotomy c 0 with h | h | h
    · have := Int.mul_le_mul_of_nonneg_left (show c ≤ -1 by omega) (Int.le_of_lt hp)
      omega
    · exact h
    · have := Int.mul_le_mul_of_nonneg_left (show 1 ≤ c by omega) (Int.le_of_lt hp)
      omega
  rw [hc, Int.mul_zero] at k5
  omega

/-- combine's loop, its slots. -/
def CombR (w : World) (xs ys : List Nat) (a b : Int) (cv iv : Value) (wr : World) : Prop := ∃ (k : Nat) (c : Int), k ≤ xs.length ∧ -2147483648 ≤ c ∧ c ≤ 2147483648 ∧ iv = .int .i64 k ∧ cv = .int .i64 c ∧ CombInv w wr xs ys a b k c

set_option maxHeartbeats 1000000 in
theorem combine_ws (va vb : Value) (xs ys : List Nat) (a b u : Int) (w : World) (ha : Ws w va xs) (hb : Ws w vb ys) (hys : ys.length ≤ xs.length) (a1 : -1073741824 < a) (a2 : a < 1073741824) (b1 : -1073741824 < b) (b2 : b < 1073741824) (hu : u = a * (val xs : Nat) + b * (val ys : Nat)) (h0 : 0 ≤ u) (h1 : u ≤ (val xs : Nat)) (hl : xs.length ≤ 1000000000) :
    Calls Tryz.prog 108 #[va, vb, .int .i64 a, .int .i64 b] w fun e w' => CombE w u.toNat xs.length e w' := by
  obtain ⟨ao, ca, rfl, hca, hca', Ha⟩ := ha.open
  obtain ⟨bo, cb, rfl, hcb, hcb', Hb⟩ := hb.open
  unfold maxLen at hca' hcb'
  have HA := hide Ha
  have HB := hide Hb
  have SA := hide ha.sm
  have SB := hide hb.sm
  have HU := hide hu
  have H1 := hide h1
  clear Ha ha Hb hb hu h1
  go_enter Tryz.func108, Tryz.ntmps108
  go_wp2_with (at_make; refine wpList_make_words _ rfl _ _ 43 rfl Tryz.underlying43 Tryz.info32 _ _ _ _ xs.length rfl rfl (by omega) (by omega) (by omega) ?_)
  intro w1 harr hgr
  have HR := hide harr
  have HG := hide hgr
  clear harr hgr
  go_wp2
  go_loopw [10, 18] (fun cv iv wr => Hid (CombR w xs ys a b cv iv wr)) (fun _ iv _ => xs.length - (intOf iv).toNat)
  case atStart => exact ⟨0, 0, Nat.zero_le _, by omega, by omega, rfl, rfl, [], rfl, Sm.nil, by simpa using HR.out, HG.out, by simp [val]⟩
  case round =>
    obtain ⟨k, c, hk, hc1, hc2, rfl, rfl, HI'⟩ := hrel.out
    have HI := hide HI'
    clear hrel HI'
    by_cases hlt : k < xs.length
    · obtain ⟨b', off, rfl, hbl, hcell⟩ := unhide HA k hlt
      have hx := (unhide SA).get k hlt
      obtain ⟨x, ex⟩ : ∃ x, x = xs[k] := ⟨_, rfl⟩
      rw [← ex] at hcell hx
      have EX := hide ex
      clear ex
      obtain ⟨done, h1, h2, h3, h4, h5⟩ := HI.out
      have hcx : wr.cell? ⟨b', off + k, none⟩ = some (.int .u32 (x : Nat)) := h4.cell hcell (by simp)
      have hf1 : wr.frozen? ⟨w.heap.size, k, none⟩ = false := h3.free k
      obtain ⟨v0, hc0⟩ : ∃ v, wr.cell? ⟨w.heap.size, k, none⟩ = some v := ⟨_, h3.cell k (by simp [h1]; omega)⟩
      have hgw := hide h4
      clear h1 h2 h3 h4 h5 hcell
      obtain ⟨p1, p2⟩ := prod_bd a x a1 a2 hx
      by_cases hlt2 : k < ys.length
      · obtain ⟨b2', off2, rfl, hbl2, hcell2⟩ := unhide HB k hlt2
        have hy := (unhide SB).get k hlt2
        obtain ⟨y, ey⟩ : ∃ y, y = ys[k] := ⟨_, rfl⟩
        rw [← ey] at hcell2 hy
        have EY : Hid (y = ys.getD k 0) := by rw [ey]; show _ = _; simp [hlt2]
        have hcy : wr.cell? ⟨b2', off2 + k, none⟩ = some (.int .u32 (y : Nat)) := hgw.out.cell hcell2 (by simp)
        clear ey hcell2
        obtain ⟨p3, p4⟩ := prod_bd b y b1 b2 hy
        go_wp2
        go_roundw
        case rel => exact ⟨k + 1, (c + a * x + b * y) / 4294967296, by omega, by omega, by omega, by go_num, by go_num, HI.out.step hlt x y EX.out EY.out _ _ rfl (by first | rfl | omega)⟩
        case measure => simp [intOf]; omega
      · have EY : Hid ((0 : Nat) = ys.getD k 0) := by show _ = _; simp [List.getD, show ¬ k < ys.length from hlt2]
        go_wp2
        go_roundw
        case rel => exact ⟨k + 1, (c + a * x) / 4294967296, by omega, by omega, by omega, by go_num, by go_num, HI.out.step hlt x 0 EX.out EY.out _ _ (by simp) (by first | rfl | omega)⟩
        case measure => simp [intOf]; omega
    · obtain rfl : k = xs.length := by omega
      have hlt' := val_lt SA.out
      have hup := H1.out
      obtain ⟨done, e1, e2, e3, e4, e5⟩ := comb_end HI.out hys HU.out h0 (by omega)
      have hw := e3.ws e2 (by rw [e1]; unfold maxLen; omega)
      rw [e1] at hw
      have HW := hide hw
      have E1 := hide e1
      have E4 := hide e4
      have E5 := hide e5
      clear e1 e2 e3 e4 e5 hw hlt' hup
      go_wp2_with fail
      refine (ftrim_num _ done _ HW.out).mono ?_
      rintro e w2 ⟨v', rfl, rfl, k1, k2⟩
      have K1 := hide k1
      have K2 := hide k2
      clear k1 k2
      go_wp2
      go_ret
      refine ⟨v', rfl, ?_, E4.out, ?_⟩
      · have := K1.out
        rw [E5.out, E1.out] at this
        exact this
      · intro j hj
        rw [K2.out] at hj
        simp [blockOf] at hj
        omega
end Go.Proofs.YtgdiepfknfnmjaaGreatDoor

namespace Go.Proofs.YtgdiepfknfnmjaaGreatDoor
open Go.RowKit
set_option linter.unusedVariables false

/-- What holds of a stride: the numbers X and Y, looked at from bit 'low' on (P = 2^low): H and N. -/
structure Stride (X Y P H N : Int) (a b c d hi nx : Int) : Prop where
  hh : hi = a * H + b * N
  hn : nx = c * H + d * N
  sg : (0 ≤ a ∧ b ≤ 0 ∧ c ≤ 0 ∧ 0 ≤ d) ∨ (a ≤ 0 ∧ 0 ≤ b ∧ 0 ≤ c ∧ d ≤ 0)
  ha : -1073741824 < a ∧ a < 1073741824
  hb : -1073741824 < b ∧ b < 1073741824
  hc : -1073741824 < c ∧ c < 1073741824
  hd : -1073741824 < d ∧ d < 1073741824
  ra : 0 ≤ hi + a
  rb : 0 ≤ hi + b
  rc : 0 ≤ nx + c
  rd : 0 ≤ nx + d
  le : nx ≤ hi
  top : hi ≤ H
  g : Int.gcd (a * X + b * Y) (c * X + d * Y) = Int.gcd X Y
  v0 : 0 ≤ c * X + d * Y
  vu : c * X + d * Y ≤ a * X + b * Y
  u0 : 0 < a * X + b * Y
  ux : a * X + b * Y ≤ X
  vy : c * X + d * Y ≤ Y
  ds : d ≠ 0
  bs : (a = 1 ∧ b = 0 ∧ c = 0 ∧ d = 1) ∨ (b ≠ 0 ∧ c * X + d * Y < Y)

theorem Stride.start {X Y P H N : Int} (hXY : Y ≤ X) (hY : 0 < Y) (hH : 0 ≤ N) (hN : N ≤ H) : Stride X Y P H N 1 0 0 1 H N := by
  refine ⟨by simp, by simp, by simp, by decide, by decide, by decide, by decide, by omega, by omega, by omega, by omega, hN, by omega, by simp, by simp; omega, by simp; omega, by simp; omega, by simp, by simp, by decide, by simp⟩

/-- What is known of the lower part. -/
theorem low_bound {P x t c d : Int} (hP : 0 < P) (hx : 0 ≤ x) (hx2 : x < P) (ht : 0 ≤ t) (ht2 : t < P) (hc : c ≤ 0) (hd : 0 ≤ d) : c * P ≤ c * x + d * t ∧ c * x + d * t ≤ d * P := by
  have h1 : c * P ≤ c * x := Int.mul_le_mul_of_nonpos_left hc (by omega)
  have h2 : 0 ≤ d * t := Int.mul_nonneg hd ht
  have h3 : c * x ≤ 0 := Int.mul_nonpos_of_nonpos_of_nonneg hc hx
  have h4 : d * t ≤ d * P := Int.mul_le_mul_of_nonneg_left (by omega) hd
  omega

theorem val_of {X Y P H N x t c d nx : Int} (hX : X = H * P + x) (hY : Y = N * P + t) (hn : nx = c * H + d * N) : c * X + d * Y = nx * P + (c * x + d * t) := by
  subst hX hY hn
  simp only [Int.mul_add, Int.add_mul, Int.mul_assoc]
  omega

theorem gcd_step (u v q : Int) : Int.gcd v (u - q * v) = Int.gcd u v := by
  rw [Int.gcd_comm u v]
  apply Nat.dvd_antisymm
  · apply Int.dvd_gcd (Int.gcd_dvd_left ..) 
    have h1 : ((Int.gcd v (u - q * v) : Nat) : Int) ∣ v := Int.gcd_dvd_left ..
    have h2 : ((Int.gcd v (u - q * v) : Nat) : Int) ∣ u - q * v := Int.gcd_dvd_right ..
    have h3 := Int.dvd_add h2 (Int.dvd_mul_of_dvd_right h1 (b := q))
    rwa [Int.sub_add_cancel] at h3
  · apply Int.dvd_gcd (Int.gcd_dvd_left ..)
    exact Int.dvd_sub (Int.gcd_dvd_right ..) (Int.dvd_mul_of_dvd_right (Int.gcd_dvd_left ..))

/-- A step of which one is sure. -/
theorem Stride.step {X Y P H N x t a b c d hi nx q : Int} (h : Stride X Y P H N a b c d hi nx) (hP : 0 < P) (hx : 0 ≤ x) (hx2 : x < P) (ht : 0 ≤ t) (ht2 : t < P) (hX : X = H * P + x) (hY : Y = N * P + t) (hXY : Y ≤ X)
    (g1 : nx + c ≠ 0) (g2 : nx + d ≠ 0) (q1 : q = (hi + a) / (nx + c)) (q2 : q = (hi + b) / (nx + d))
    (hc' : -1073741824 < a - q * c ∧ a - q * c < 1073741824) (hd' : -1073741824 < b - q * d ∧ b - q * d < 1073741824) :
    Stride X Y P H N c d (a - q * c) (b - q * d) nx (hi - q * nx) ∧ 0 ≤ hi - q * nx ∧ hi - q * nx < nx ∧ 0 ≤ q ∧ q * nx ≤ hi + 1073741824 := by
  have p1 : 0 < nx + c := by have := h.rc; omega
  have p2 : 0 < nx + d := by have := h.rd; omega
  have q0 : 0 ≤ q := by rw [q1]; exact Int.ediv_nonneg h.ra (by omega)
  have m1 : q * (nx + c) + (hi + a) % (nx + c) = hi + a := by
    have := Int.mul_ediv_add_emod (hi + a) (nx + c)
    rw [← q1, Int.mul_comm] at this
    exact this
  have m2 : q * (nx + d) + (hi + b) % (nx + d) = hi + b := by
    have := Int.mul_ediv_add_emod (hi + b) (nx + d)
    rw [← q2, Int.mul_comm] at this
    exact this
  have r1 := Int.emod_nonneg (hi + a) (Int.ne_of_gt p1)
  have r2 := Int.emod_nonneg (hi + b) (Int.ne_of_gt p2)
  have s1 := Int.emod_lt_of_pos (hi + a) p1
  have s2 := Int.emod_lt_of_pos (hi + b) p2
  rw [Int.mul_add] at m1 m2
  generalize (hi + a) % (nx + c) = R1 at *
  generalize (hi + b) % (nx + d) = R2 at *
  -- the new remainders
  have eU : a * X + b * Y = hi * P + (a * x + b * t) := val_of hX hY h.hh
  have eV : c * X + d * Y = nx * P + (c * x + d * t) := val_of hX hY h.hn
  have en : hi - q * nx = (a - q * c) * H + (b - q * d) * N := by
    have h1 := h.hh
    have h2 := h.hn
    rw [h1, h2]
    simp only [Int.mul_add, Int.sub_mul, Int.mul_assoc]
    omega
  have eV' : (a - q * c) * X + (b - q * d) * Y = (hi - q * nx) * P + ((a - q * c) * x + (b - q * d) * t) := val_of hX hY en
  have eVV : (a - q * c) * X + (b - q * d) * Y = (a * X + b * Y) - q * (c * X + d * Y) := by
    simp only [Int.mul_add, Int.sub_mul, Int.mul_assoc]
    omega
  have sgn' : (0 ≤ c ∧ d ≤ 0 ∧ a - q * c ≤ 0 ∧ 0 ≤ b - q * d) ∨ (c ≤ 0 ∧ 0 ≤ d ∧ 0 ≤ a - q * c ∧ b - q * d ≤ 0) := by
    rcases h.sg with ⟨a1, a2, a3, a4⟩ | ⟨a1, a2, a3, a4⟩
    · right
      have := Int.mul_nonpos_of_nonneg_of_nonpos q0 a3
      have := Int.mul_nonneg q0 a4
      omega
    · left
      have := Int.mul_nonneg q0 a3
      have := Int.mul_nonpos_of_nonneg_of_nonpos q0 a4
      omega
  have hnn : 0 ≤ hi - q * nx ∧ hi - q * nx < nx := by omega
  have hqn : q * nx ≤ hi + 1073741824 := by
    have := h.ha
    have := h.hb
    rcases h.sg with ⟨a1, a2, a3, a4⟩ | ⟨a1, a2, a3, a4⟩
    · have := Int.mul_nonneg q0 a4
      omega
    · have := Int.mul_nonneg q0 a3
      omega
  -- v is above 0, v' isn't below 0, v' is below v
  have hP1 : P ≤ (nx + c) * P := by
    have := Int.mul_le_mul_of_nonneg_right (show 1 ≤ nx + c by omega) (Int.le_of_lt hP)
    omega
  have hP2 : P ≤ (nx + d) * P := by
    have := Int.mul_le_mul_of_nonneg_right (show 1 ≤ nx + d by omega) (Int.le_of_lt hP)
    omega
  have hv : 0 < c * X + d * Y := by
    rw [eV]
    rcases h.sg with ⟨a1, a2, a3, a4⟩ | ⟨a1, a2, a3, a4⟩
    · have := (low_bound hP hx hx2 ht ht2 a3 a4).1
      rw [Int.add_mul] at hP1
      omega
    · have := (low_bound hP ht ht2 hx hx2 a4 a3).1
      rw [Int.add_mul] at hP2
      omega
  have e1 : 0 ≤ (hi - q * nx + (a - q * c)) * P := Int.mul_nonneg (by omega) (Int.le_of_lt hP)
  have e2 : 0 ≤ (hi - q * nx + (b - q * d)) * P := Int.mul_nonneg (by omega) (Int.le_of_lt hP)
  have hv0 : 0 ≤ (a - q * c) * X + (b - q * d) * Y := by
    rw [eV']
    rcases sgn' with ⟨a1, a2, a3, a4⟩ | ⟨a1, a2, a3, a4⟩
    · have := (low_bound hP hx hx2 ht ht2 a3 a4).1
      rw [Int.add_mul] at e1
      omega
    · have := (low_bound hP ht ht2 hx hx2 a4 a3).1
      rw [Int.add_mul] at e2
      omega
  have f1 : P ≤ (nx + c - (hi - q * nx + (a - q * c))) * P := by
    have := Int.mul_le_mul_of_nonneg_right (show 1 ≤ nx + c - (hi - q * nx + (a - q * c)) by omega) (Int.le_of_lt hP)
    omega
  have f2 : P ≤ (nx + d - (hi - q * nx + (b - q * d))) * P := by
    have := Int.mul_le_mul_of_nonneg_right (show 1 ≤ nx + d - (hi - q * nx + (b - q * d)) by omega) (Int.le_of_lt hP)
    omega
  have hlt : (a - q * c) * X + (b - q * d) * Y < c * X + d * Y := by
    rw [eV', eV]
    rw [Int.sub_mul, Int.add_mul, Int.add_mul] at f1 f2
    rcases sgn' with ⟨a1, a2, a3, a4⟩ | ⟨a1, a2, a3, a4⟩
    · have k1 := (low_bound hP ht ht2 hx hx2 a2 a1).1
      have k2 := (low_bound hP hx hx2 ht ht2 a3 a4).2
      omega
    · have k1 := (low_bound hP hx hx2 ht ht2 a1 a2).1
      have k2 := (low_bound hP ht ht2 hx hx2 a4 a3).2
      omega
  have hds : b - q * d ≠ 0 := by
    have hd0 := h.ds
    rcases h.bs with ⟨ea, eb, ec, ed⟩ | ⟨hb0, _⟩
    · subst ea eb ec ed
      have hle := h.le
      have : q ≠ 0 := by
        intro e
        rw [e] at m1
        omega
      omega
    · rcases h.sg with ⟨a1, a2, a3, a4⟩ | ⟨a1, a2, a3, a4⟩
      · have := Int.mul_nonneg q0 a4
        omega
      · have := Int.mul_nonpos_of_nonneg_of_nonpos q0 a4
        omega
  refine ⟨⟨h.hn, en, ?_, h.hc, h.hd, hc', hd', h.rc, h.rd, by omega, by omega, by omega, by have := h.top; have := h.le; omega, ?_, hv0, Int.le_of_lt hlt, hv, ?_, ?_, hds, .inr ⟨h.ds, ?_⟩⟩, hnn.1, hnn.2, q0, hqn⟩
  · omega
  · rw [eVV, gcd_step]; exact h.g
  · have := h.vy; omega
  · have := h.vy; omega
  · have := h.vy; omega
end Go.Proofs.YtgdiepfknfnmjaaGreatDoor
