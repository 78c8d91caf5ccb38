/- frac: what is left of a number by a word: left. -/
import Derived.Test.YtgdiepfknfnmjaaGreatDoorMFa
import Derived.Test.YtgdiepfknfnmjaaGreatDoorMBase
import Derived.Test.YtgdiepfknfnmjaaGreatDoorMFb
import Derived.Lib.ItoaNum
import Derived.Laws.AppendOwn
import Derived.Lib.UnsafeStr
import Derived.Lib.Walk
import Derived.Lib.ConvBytes
import Derived.Lib.AppendStr
import Derived.Lib.FrozenHead2
import Derived.Test.YtgdiepfknfnmjaaGreatDoorMFd
import Derived.Deep.RegionHeld3
import Derived.Deep.DeepCutAuto
namespace Go.Proofs.YtgdiepfknfnmjaaGreatDoor
open Go.RowKit
set_option linter.unusedVariables false
set_option linter.unusedSimpArgs false

def NlfR (w : World) (xs : List Nat) (d : Nat) (rv iv : Value) (wr : World) : Prop :=
  ∃ k r : Nat, k ≤ xs.length ∧ r = val (xs.drop k) % d ∧ iv = .int .i64 ((k : Int) - 1) ∧ rv = .int .u64 r ∧ w.grownBy wr none

theorem left_step (xs : List Nat) (k d : Nat) (h : k < xs.length) : (val (xs.drop (k + 1)) % d * 4294967296 + xs[k]) % d = val (xs.drop k) % d := by
  rw [val_drop_succ xs k, List.getD_eq_getElem?_getD, List.getElem?_eq_getElem h, Option.getD_some, Nat.add_comm, Nat.add_mod, Nat.mod_mul_mod, ← Nat.add_mod, Nat.mul_comm 4294967296]

set_option maxHeartbeats 2000000 in
set_option maxRecDepth 10000 in
theorem nleft_at (v : Value) (xs : List Nat) (d : Nat) (w : World) (hv : Ws w v xs) (hd0 : 0 < d) (hd : d < 4294967296) :
    Calls Tryz.prog 120 #[v, .int .u32 (d : Nat)] w fun e w' => e = .returned (.int .u32 ((val xs % d : Nat) : Int)) ∧ w.grownBy w' none := by
  have HV := hide hv
  have HS := hide hv.sm
  obtain ⟨ao, cap, rfl, hc1, hc2, hao⟩ := hv.open
  unfold maxLen at hc2
  clear hao hv
  go_enter Tryz.func120, Tryz.ntmps120
  go_wp2
  go_loopw [5, 6] (fun rv iv wr => Hid (NlfR w xs d rv iv wr)) (fun _ iv _ => (intOf iv + 1).toNat)
  case atStart => exact ⟨xs.length, 0, Nat.le_refl _, by rw [List.drop_of_length_le (Nat.le_refl _)]; simp [val], by go_num, rfl, gr_refl _ _⟩
  case round =>
    obtain ⟨k, r, hk, hr, rfl, rfl, g1⟩ := hrel.out
    have G1 := hide g1
    have hrd : r < d := by rw [hr]; exact Nat.mod_lt _ hd0
    have HR := hide hr
    clear hr g1 hrel
    by_cases h0 : k = 0
    · subst h0
      have e0 : (((0 : Nat) : Int) - 1) = -1 := rfl
      rw [e0]
      go_wp2
      go_ret
      refine ⟨?_, G1.out⟩
      have := HR.out
      rw [List.drop_zero] at this
      rw [← this]
      rfl
    · obtain ⟨j, rfl⟩ : ∃ j, k = j + 1 := ⟨k - 1, by omega⟩
      have ej : (((j + 1 : Nat) : Int) - 1) = (j : Int) := by omega
      rw [ej]
      have hj : j < xs.length := by omega
      obtain ⟨b, off, e1, hb, hcell⟩ : ∃ b off, ao = some ⟨b, off, none⟩ ∧ b < wr.heap.size ∧ wr.cell? ⟨b, off + j, none⟩ = some (.int .u32 (xs[j] : Nat)) := by
        obtain ⟨ao', cap', e, _, _, h⟩ := (HV.out.keep0 G1.out).open
        simp only [Value.slice.injEq, true_and] at e
        obtain ⟨rfl, rfl⟩ := e
        exact h j hj
      subst e1
      have hx := HS.out.get j hj
      obtain ⟨x, ex⟩ : ∃ x, x = xs[j] := ⟨_, rfl⟩
      rw [← ex] at hcell hx
      have EX := hide ex
      obtain ⟨m, hm⟩ : ∃ m, m = r * 4294967296 + x := ⟨_, rfl⟩
      have hor := or_word r x (by omega) hx
      rw [← hm] at hor
      have hmb : m < 18446744073709551616 := by omega
      have HM := hide hm
      clear ex ej h0 hm
      go_wp2
      go_roundw
      case rel => exact ⟨j, m % d, by omega, by rw [HM.out, HR.out, EX.out]; exact left_step xs j d hj, by go_num, by rw [Int.natCast_emod], G1.out⟩
      case measure => simp [intOf]

end Go.Proofs.YtgdiepfknfnmjaaGreatDoor

namespace Go.Proofs.YtgdiepfknfnmjaaGreatDoor
open Go.RowKit
set_option linter.unusedVariables false
set_option linter.unusedSimpArgs false

/-- What is taken out, round by round. -/
def tenBy : Nat → Nat
  | 0 => 2147483648
  | 1 => 2
  | 2 => 1220703125
  | _ => 5

theorem tenBy_lo (j : Nat) : 2 ≤ tenBy j ∧ tenBy j < 4294967296 := by
  match j with
  | 0 => decide
  | 1 => decide
  | 2 => decide
  | n + 3 => exact ⟨show 2 ≤ 5 by decide, show 5 < 4294967296 by decide⟩

/-- What is left divides the number, and is without what was taken out. -/
def DtnR (w : World) (d L : Nat) (rv iv : Value) (wr : World) : Prop :=
  ∃ j r : Nat, j ≤ 4 ∧ iv = .int .i64 (j : Int) ∧ OwnN wr w.heap.size rv r L ∧ 0 < r ∧ r ∣ d ∧ (2 ≤ j → r % 2 ≠ 0) ∧ (4 ≤ j → r % 5 ≠ 0) ∧ w.grownBy wr none

def DtnG (w : World) (d L j k : Nat) (rv : Value) (wr : World) : Prop :=
  ∃ r : Nat, OwnN wr w.heap.size rv r L ∧ 0 < r ∧ r ∣ d ∧ (2 ≤ j → r % 2 ≠ 0) ∧ w.grownBy wr none ∧ r = k

theorem odd_of_dvd {r s : Nat} (h : s ∣ r) (hr : r % 2 ≠ 0) : s % 2 ≠ 0 := by
  obtain ⟨k, rfl⟩ := h
  intro e
  apply hr
  rw [Nat.mul_mod, e, Nat.zero_mul, Nat.zero_mod]

theorem ten_ix0 (W : World) : (Instr.index 145 (.agg #[.int .u32 2147483648, .int .u32 2, .int .u32 1220703125, .int .u32 5]) (.int .i64 0)).run Tryz.prog W = .ok (.int .u32 2147483648) W := by kernel_rfl
theorem ten_ix1 (W : World) : (Instr.index 145 (.agg #[.int .u32 2147483648, .int .u32 2, .int .u32 1220703125, .int .u32 5]) (.int .i64 1)).run Tryz.prog W = .ok (.int .u32 2) W := by kernel_rfl
theorem ten_ix2 (W : World) : (Instr.index 145 (.agg #[.int .u32 2147483648, .int .u32 2, .int .u32 1220703125, .int .u32 5]) (.int .i64 2)).run Tryz.prog W = .ok (.int .u32 1220703125) W := by kernel_rfl
theorem ten_ix3 (W : World) : (Instr.index 145 (.agg #[.int .u32 2147483648, .int .u32 2, .int .u32 1220703125, .int .u32 5]) (.int .i64 3)).run Tryz.prog W = .ok (.int .u32 5) W := by kernel_rfl

theorem tr_one {ys : List Nat} (hs : Sm ys) (ht : Tr ys) (h : val ys = 1) : ys = [1] := by
  match ys, hs, ht, h with
  | [], _, _, h => exact absurd h (by simp [val])
  | [x], _, _, h => simp [val] at h; rw [h]
  | x :: y :: r, _, ht, h =>
    have := ht.tail.pos
    simp only [val] at h this
    omega

set_option maxHeartbeats 4000000 in
set_option maxRecDepth 10000 in
theorem dividesTens_at (v : Value) (d L : Nat) (w : World) (h : Num w v d L) (hd : 0 < d) (hL : L ≤ 1000000000) :
    Calls Tryz.prog 77 #[v] w fun e w' => ∃ b : Bool, e = .returned (.bool b) ∧ w.grownBy w' none ∧ (b = false → ∃ k g, d = k * g ∧ g % 2 ≠ 0 ∧ g % 5 ≠ 0 ∧ g ≠ 1) := by
  obtain ⟨xs, hws, htr, hval, hlen⟩ := h
  have hsm := hws.sm
  go_enter Tryz.func77, Tryz.ntmps77
  go_wp2_with fail
  refine (fclone_own v xs w hws (by omega)).mono ?_
  rintro e w1 ⟨cv, rfl, c1, c2⟩
  have C1 : Hid (OwnN w1 w.heap.size cv d L) := ⟨xs, c1, hsm, htr, hval, hlen⟩
  obtain ⟨co, cl, cc, rfl⟩ := C1.out.shape
  have C2 := hide c2
  clear c1 c2 hws htr hval hlen hsm
  have IX : Hid (∀ j, j < 4 → ∀ W, (Instr.index 145 (.agg #[.int .u32 2147483648, .int .u32 2, .int .u32 1220703125, .int .u32 5]) (.int .i64 ((j : Nat) : Int))).run Tryz.prog W = .ok (.int .u32 (tenBy j : Nat)) W) := by
    intro j hj W
    match j, hj with
    | 0, _ => exact ten_ix0 W
    | 1, _ => exact ten_ix1 W
    | 2, _ => exact ten_ix2 W
    | 3, _ => exact ten_ix3 W
  go_wp2
  go_loopw [3, 9] (fun rv iv wr => Hid (DtnR w d L rv iv wr)) (fun _ iv _ => (4 - intOf iv).toNat)
  case atStart =>
    exact ⟨0, d, by omega, by go_num, C1.out, hd, Nat.dvd_refl _, by omega, by omega, C2.out⟩
  case round =>
    obtain ⟨j, r, hj, rfl, r1, r2, r3, r4, r5, r6⟩ := hrel.out
    obtain ⟨ro, rl, rc, rfl⟩ := r1.shape
    have R1 := hide r1
    have R3 := hide r3
    have R4 := hide r4
    have R5 := hide r5
    have R6 := hide r6
    clear r1 r3 r4 r5 r6 hrel C1 C2
    by_cases h4 : j = 4
    · subst h4
      go_wp2_with fail
      obtain ⟨ys, y1, y2, y3, y4, y5⟩ := R1.out
      refine (fisOne_ws _ ys _ (y1.ws y2)).mono ?_
      rintro e w2 ⟨rfl, rfl⟩
      go_wp2
      go_ret
      refine ⟨_, rfl, R6.out, ?_⟩
      intro hb
      obtain ⟨k, hk⟩ := R3.out
      refine ⟨k, r, by rw [hk, Nat.mul_comm], R4.out (by omega), R5.out (by omega), ?_⟩
      intro hr1
      have : ys = [1] := by
        rw [hr1] at y4
        exact tr_one y2 y3 y4
      rw [this] at hb
      simp at hb
    · have hj4 : j < 4 := by omega
      have hix := IX.out j hj4
      obtain ⟨b, hb⟩ : ∃ b, b = tenBy j := ⟨_, rfl⟩
      have hb1 : 2 ≤ b := by rw [hb]; exact (tenBy_lo j).1
      have hb2 : b < 4294967296 := by rw [hb]; exact (tenBy_lo j).2
      rw [← hb] at hix
      have HB := hide hb
      clear hb
      have hjd : decide ((j : Int) < 4) = true := by simp; omega
      go_wp2
      go_loopg [3] r (fun k rv wr => Hid (DtnG w d L j k rv wr))
      case atStart => exact ⟨r, R1.out, r2, R3.out, R4.out, R6.out, rfl⟩
      case round =>
        obtain ⟨s, s1, s2, s3, s4, s5, rfl⟩ := hrel.out
        obtain ⟨so, sl, sc, rfl⟩ := s1.shape
        have S1 := hide s1
        have S3 := hide s3
        have S4 := hide s4
        have S5 := hide s5
        clear s1 s3 s4 s5 hrel
        obtain ⟨ys, y1, y2, y3, y4, y5⟩ := S1.out
        go_wp2_with fail
        refine (nleft_at _ ys b _ (y1.ws y2) (by omega) hb2).mono ?_
        rintro e w2 ⟨rfl, g2⟩
        rw [y4]
        have Y1 := hide (y1.keep0 g2)
        have Y2 := hide y2
        have Y4 := hide y4
        have YT := hide y3
        have G2 := hide (gr_none S5.out g2)
        have hyl : ys.length ≤ 1000000000 := by omega
        have Y5 := hide y5
        clear y1 y2 y3 y4 y5 g2
        by_cases hz : s % b = 0
        · rw [hz]
          go_wp2_with fail
          refine (shrink_own _ ys b _ w.heap.size Y1.out Y2.out (by omega) hb2 hyl).mono ?_
          rintro e w3 ⟨v3, r3, rfl, q1, zs, q2, q3, q4, q5, q6, q7, q8⟩
          rw [Y4.out] at q5
          have N3 : Hid (OwnN w3 w.heap.size v3 (s / b) L) := ⟨zs, q2, q3, q4, q5, Nat.le_trans q6 Y5.out⟩
          obtain ⟨vo, vl, vc, rfl⟩ := N3.out.shape
          have G3 := hide (gr_own2 G2.out q7 (fun k e => (Y1.out.fresh k e).1))
          clear q1 q2 q3 q4 q5 q6 q7 q8
          have hdv : s / b ∣ s := ⟨b, by have := Nat.div_add_mod s b; rw [hz] at this; rw [Nat.mul_comm]; omega⟩
          have hps : 0 < s / b := Nat.div_pos (Nat.le_of_dvd s2 (Nat.dvd_of_mod_eq_zero hz)) (by omega)
          have hlt : s / b < s := Nat.div_lt_self s2 (by omega)
          have HDV := hide hdv
          clear hdv
          go_wp2
          go_roundg (s / b)
          case measure => exact hlt
          case rel =>
            exact ⟨s / b, N3.out, hps, Nat.dvd_trans HDV.out S3.out, fun e => odd_of_dvd HDV.out (S4.out e), G3.out, rfl⟩
        · have hzz : ((s % b : Nat) : Int) ≠ 0 := by omega
          obtain ⟨m, hm⟩ : ∃ m : Nat, m = s % b := ⟨_, rfl⟩
          rw [← hm] at hzz ⊢
          have HM := hide hm
          have HZ := hide hz
          clear hm hz
          have hz1 : (((m : Nat) : Int) == 0) = false := by simpa using hzz
          go_wp2
          go_roundw
          case measure => simp only [intOf]; omega
          case rel =>
            refine ⟨j + 1, s, by omega, by go_num, ⟨ys, Y1.out, Y2.out, ?_, Y4.out, Y5.out⟩, s2, S3.out, ?_, ?_, G2.out⟩
            · exact YT.out
            · intro hj2
              by_cases e1 : j = 1
              · subst e1
                have h1 : b = 2 := HB.out
                rw [HM.out, h1] at hzz
                omega
              · exact S4.out (by omega)
            · intro hj2
              obtain rfl : j = 3 := by omega
              have h1 : b = 5 := HB.out
              rw [HM.out, h1] at hzz
              omega

end Go.Proofs.YtgdiepfknfnmjaaGreatDoor

namespace Go.Proofs.YtgdiepfknfnmjaaGreatDoor
open Go.RowKit
set_option linter.unusedVariables false
set_option linter.unusedSimpArgs false

/-- The digits behind the point: as many as there may be. -/
def decGo (d most : Nat) : Nat → List UInt8 → Nat → List UInt8 × Nat
  | 0, out, r => (out, r)
  | k + 1, out, r => if r = 0 ∨ most ≤ out.length then (out, r) else decGo d most k (out ++ Lib.decDigits (r * 10 / d)) (r * 10 % d)

/-- What is ahead of them. -/
def decHead (n d : Nat) : List UInt8 := Lib.decDigits (n / d) ++ (if n % d = 0 then [] else [46])

/-- A decimal, and whether it ends in time. -/
def decAns (n d most : Nat) : List UInt8 × Bool :=
  let e := decGo d most most (decHead n d) (n % d)
  if e.2 ≠ 0 ∨ most < e.1.length then ([], false) else (e.1, true)

theorem decGo_stop {d most k r : Nat} {out : List UInt8} (h : r = 0 ∨ most ≤ out.length) : decGo d most k out r = (out, r) := by
  cases k with
  | zero => rfl
  | succ k => rw [decGo, if_pos h]

end Go.Proofs.YtgdiepfknfnmjaaGreatDoor

namespace Go.Proofs.YtgdiepfknfnmjaaGreatDoor
open Go.RowKit Go.Lib
set_option linter.unusedVariables false

/-- The digits behind the point. -/
def digs (d r : Nat) : Nat → List UInt8
  | 0 => []
  | j + 1 => digs d r j ++ [UInt8.ofNat (48 + (r * 10 ^ j % d) * 10 / d)]

theorem digs_len (d r j : Nat) : (digs d r j).length = j := by
  induction j with
  | zero => rfl
  | succ j ih => simp [digs, ih]

theorem ten_step (d r j : Nat) (hd : 0 < d) : r * 10 ^ (j + 1) / d = 10 * (r * 10 ^ j / d) + (r * 10 ^ j % d) * 10 / d ∧ r * 10 ^ (j + 1) % d = (r * 10 ^ j % d) * 10 % d := by
  have h1 : r * 10 ^ (j + 1) = (r * 10 ^ j % d) * 10 + d * (10 * (r * 10 ^ j / d)) := by
    have h := Nat.div_add_mod (r * 10 ^ j) d
    rw [Nat.pow_succ, ← Nat.mul_assoc]
    conv => lhs; rw [← h]
    rw [Nat.add_mul, Nat.mul_assoc, Nat.mul_comm (r * 10 ^ j / d) 10]
    omega
  rw [h1]
  constructor
  · rw [Nat.add_mul_div_left _ _ hd]; omega
  · rw [Nat.add_mul_mod_self_left]

theorem digit_lt {d r : Nat} (hd : 0 < d) : (r % d) * 10 / d < 10 := by
  have := Nat.mod_lt r hd
  rw [Nat.div_lt_iff_lt_mul hd]
  omega

theorem digs_pad (d r j : Nat) (hd : 0 < d) : digs d r j = padD j (r * 10 ^ j / d) := by
  induction j with
  | zero => rfl
  | succ j ih =>
    have hb := digit_lt (d := d) (r := r * 10 ^ j) hd
    rw [digs, padD, (ten_step d r j hd).1, ih]
    generalize r * 10 ^ j % d * 10 / d = b at hb ⊢
    generalize r * 10 ^ j / d = a
    rw [show (10 * a + b) / 10 = a by omega, show (10 * a + b) % 10 = b by omega]

/-- Some steps of Decimal. -/
theorem decGo_run (d most f : Nat) (out : List UInt8) (hd : 0 < d) : ∀ m j k, m ≤ k → (∀ i, i < m → f * 10 ^ (j + i) % d ≠ 0 ∧ out.length + (j + i) < most) →
    decGo d most k (out ++ digs d f j) (f * 10 ^ j % d) = decGo d most (k - m) (out ++ digs d f (j + m)) (f * 10 ^ (j + m) % d) := by
  intro m
  induction m with
  | zero => intro j k _ _; rfl
  | succ m ih =>
    intro j k hk h
    obtain ⟨k', rfl⟩ : ∃ k', k = k' + 1 := ⟨k - 1, by omega⟩
    obtain ⟨h0, h1⟩ := h 0 (by omega)
    rw [Nat.add_zero] at h0 h1
    rw [decGo, if_neg (by
      intro hh
      rcases hh with hh | hh
      · exact h0 hh
      · rw [List.length_append, digs_len] at hh; omega)]
    have e1 : out ++ digs d f j ++ Lib.decDigits (f * 10 ^ j % d * 10 / d) = out ++ digs d f (j + 1) := by
      rw [decDigits_one (digit_lt hd), digs, List.append_assoc]
    rw [e1, ← (ten_step d f j hd).2, ih (j + 1) k' (by omega) (fun i hi => by
      have := h (i + 1) (by omega)
      rw [show j + (i + 1) = j + 1 + i by omega] at this
      exact this)]
    rw [show k' + 1 - (m + 1) = k' - m by omega, show j + 1 + m = j + (m + 1) by omega]

/-- What a decimal is that ends behind P digits. -/
def decT (n d P : Nat) : List UInt8 := Lib.decDigits (n / d) ++ (if P = 0 then [] else 46 :: padD P (n % d * 10 ^ P / d))

theorem decAns_ends (n d P most : Nat) (hd : 0 < d) (h0 : n % d * 10 ^ P % d = 0) (h1 : ∀ j, j < P → n % d * 10 ^ j % d ≠ 0) :
    decAns n d most = if (decT n d P).length ≤ most then (decT n d P, true) else ([], false) := by
  have hm := Nat.mod_lt n hd
  have hhead : decHead n d = Lib.decDigits (n / d) ++ (if P = 0 then [] else [46]) := by
    unfold decHead
    by_cases hP : P = 0
    · subst hP
      rw [Nat.pow_zero, Nat.mul_one, Nat.mod_mod] at h0
      rw [if_pos h0, if_pos rfl]
    · have := h1 0 (by omega)
      rw [Nat.pow_zero, Nat.mul_one, Nat.mod_mod] at this
      rw [if_neg this, if_neg hP]
  have hT : decT n d P = decHead n d ++ digs d (n % d) P := by
    rw [hhead, digs_pad _ _ _ hd, decT]
    by_cases hP : P = 0
    · subst hP; simp [padD]
    · rw [if_neg hP, if_neg hP, List.append_assoc]; rfl
  have hlen : (decT n d P).length = (decHead n d).length + P := by rw [hT, List.length_append, digs_len]
  have start : decGo d most most (decHead n d) (n % d) = decGo d most most (decHead n d ++ digs d (n % d) 0) (n % d * 10 ^ 0 % d) := by
    rw [digs, List.append_nil, Nat.pow_zero, Nat.mul_one, Nat.mod_mod]
  have red : decAns n d most = if (decGo d most most (decHead n d) (n % d)).2 ≠ 0 ∨ most < (decGo d most most (decHead n d) (n % d)).1.length then ([], false) else ((decGo d most most (decHead n d) (n % d)).1, true) := rfl
  by_cases hle : (decT n d P).length ≤ most
  · rw [if_pos hle, red, start, decGo_run d most (n % d) (decHead n d) hd P 0 most (by omega) (fun i hi => by
      rw [Nat.zero_add]; exact ⟨h1 i hi, by omega⟩), Nat.zero_add, decGo_stop (.inl h0)]
    rw [if_neg (by
      rintro (h | h)
      · exact h h0
      · rw [← hT] at h; exact absurd h (by show ¬ most < (decT n d P).length; omega)), ← hT]
  · rw [if_neg hle, red]
    have hstop : (decGo d most most (decHead n d) (n % d)).2 ≠ 0 ∨ most < (decGo d most most (decHead n d) (n % d)).1.length := by
      by_cases hh : most ≤ (decHead n d).length
      · rw [decGo_stop (.inr hh)]
        by_cases hP : P = 0
        · right
          show most < (decHead n d).length
          omega
        · left
          have := h1 0 (by omega)
          rw [Nat.pow_zero, Nat.mul_one, Nat.mod_mod] at this
          exact this
      · by_cases hlt : most - (decHead n d).length < P
        · rw [start, decGo_run d most (n % d) (decHead n d) hd (most - (decHead n d).length) 0 most (by omega) (fun i hi => by
            rw [Nat.zero_add]; exact ⟨h1 i (by omega), by omega⟩), Nat.zero_add, decGo_stop (.inr (by rw [List.length_append, digs_len]; omega))]
          exact .inl (h1 _ hlt)
        · omega
    rw [if_pos hstop]

theorem decAns_never (n d most : Nat) (hd : 0 < d) (h : ∀ j, n % d * 10 ^ j % d ≠ 0) : decAns n d most = ([], false) := by
  have start : decGo d most most (decHead n d) (n % d) = decGo d most most (decHead n d ++ digs d (n % d) 0) (n % d * 10 ^ 0 % d) := by
    rw [digs, List.append_nil, Nat.pow_zero, Nat.mul_one, Nat.mod_mod]
  have red : decAns n d most = if (decGo d most most (decHead n d) (n % d)).2 ≠ 0 ∨ most < (decGo d most most (decHead n d) (n % d)).1.length then ([], false) else ((decGo d most most (decHead n d) (n % d)).1, true) := rfl
  rw [red, if_pos]
  left
  have key : ∀ k j out, (decGo d most k out (n % d * 10 ^ j % d)).2 ≠ 0 := by
    intro k
    induction k with
    | zero => intro j out; exact h j
    | succ k ih =>
      intro j out
      rw [decGo]
      split
      · exact h j
      · rw [← (ten_step d (n % d) j hd).2]
        exact ih (j + 1) _
  rw [start]
  exact key _ _ _

/-- What the reference makes of a decimal that ends behind P digits: its digits, with noughts ahead, parted. -/
theorem whole_parts (n d P : Nat) (hd : 0 < d) (h0 : n % d * 10 ^ P % d = 0) : n * 10 ^ P / d = n / d * 10 ^ P + n % d * 10 ^ P / d ∧ n % d * 10 ^ P / d < 10 ^ P := by
  have h := Nat.div_add_mod n d
  constructor
  · have e : n * 10 ^ P = n % d * 10 ^ P + d * (n / d * 10 ^ P) := by
      conv => lhs; rw [← h]
      rw [Nat.add_mul, Nat.mul_assoc]
      omega
    rw [e, Nat.add_mul_div_left _ _ hd]
    omega
  · rw [Nat.div_lt_iff_lt_mul hd, Nat.mul_comm (10 ^ P)]
    exact Nat.mul_lt_mul_of_pos_right (Nat.mod_lt n hd) (Nat.pow_pos (by decide))

/-- Digits with noughts ahead, more than P of them. -/
def padTo (P : Nat) (l : List UInt8) : List UInt8 := List.replicate (P + 1 - l.length) 48 ++ l

theorem padTo_parts (q c P : Nat) (hc : c < 10 ^ P) : padTo P (decDigits (q * 10 ^ P + c)) = decDigits q ++ padD P c := by
  unfold padTo
  by_cases hq : 0 < q
  · rw [dec_pad P q c hq hc]
    have : 0 < (decDigits q).length := by rw [decDigits_length]; unfold nDigits; split <;> omega
    rw [show P + 1 - (decDigits q ++ padD P c).length = 0 by rw [List.length_append, padD_length]; omega]
    rfl
  · obtain rfl : q = 0 := by omega
    rw [Nat.zero_mul, Nat.zero_add]
    by_cases hP : P = 0
    · subst hP
      obtain rfl : c = 0 := by rw [Nat.pow_zero] at hc; omega
      rw [decDigits_one (by decide)]
      rfl
    · rw [padD_eq P c (by omega) hc, decDigits_one (i := 0) (by decide)]
      have hl := dec_len_le (by omega : 0 < P) hc
      rw [show P + 1 - (decDigits c).length = (P - (decDigits c).length) + 1 by omega, List.replicate_succ]
      rfl

theorem decT_of (n d P : Nat) (hd : 0 < d) (h0 : n % d * 10 ^ P % d = 0) (hP : P ≠ 0) :
    (padTo P (decDigits (n * 10 ^ P / d))).take ((padTo P (decDigits (n * 10 ^ P / d))).length - P) ++ 46 :: (padTo P (decDigits (n * 10 ^ P / d))).drop ((padTo P (decDigits (n * 10 ^ P / d))).length - P) = decT n d P := by
  obtain ⟨e1, e2⟩ := whole_parts n d P hd h0
  rw [e1, padTo_parts _ _ _ e2, decT, if_neg hP]
  have hl : (decDigits (n / d) ++ padD P (n % d * 10 ^ P / d)).length - P = (decDigits (n / d)).length := by
    rw [List.length_append, padD_length]; omega
  rw [hl, List.take_left, List.drop_left]

theorem decT_whole (n d : Nat) (hd : 0 < d) (h0 : n % d = 0) : padTo 0 (decDigits (n * 10 ^ 0 / d)) = decT n d 0 := by
  obtain ⟨e1, e2⟩ := whole_parts n d 0 hd (by rw [h0]; simp)
  rw [e1, padTo_parts _ _ _ e2, decT, if_pos rfl]
  rfl
/-! Twos and fives below the bar. -/
theorem cop_two {g : Nat} (h : g % 2 ≠ 0) : Nat.Coprime g 2 := by
  have h1 : Nat.gcd g 2 ∣ 2 := Nat.gcd_dvd_right g 2
  have h2 : Nat.gcd g 2 ≤ 2 := Nat.le_of_dvd (by decide) h1
  have h3 : 0 < Nat.gcd g 2 := Nat.gcd_pos_of_pos_right _ (by decide)
  have h4 : Nat.gcd g 2 ≠ 2 := fun e => h (Nat.mod_eq_zero_of_dvd (e ▸ Nat.gcd_dvd_left g 2))
  show Nat.gcd g 2 = 1
  omega

theorem cop_five {g : Nat} (h : g % 5 ≠ 0) : Nat.Coprime g 5 := by
  have h1 : Nat.gcd g 5 ∣ 5 := Nat.gcd_dvd_right g 5
  have h2 : Nat.gcd g 5 ≤ 5 := Nat.le_of_dvd (by decide) h1
  have h3 : 0 < Nat.gcd g 5 := Nat.gcd_pos_of_pos_right _ (by decide)
  have h4 : Nat.gcd g 5 ≠ 5 := fun e => h (Nat.mod_eq_zero_of_dvd (e ▸ Nat.gcd_dvd_left g 5))
  show Nat.gcd g 5 = 1
  generalize Nat.gcd g 5 = x at h1 h2 h3 h4
  have : x = 1 ∨ x = 2 ∨ x = 3 ∨ x = 4 := by omega
  rcases this with rfl | rfl | rfl | rfl
  · rfl
  · exact absurd h1 (by decide)
  · exact absurd h1 (by decide)
  · exact absurd h1 (by decide)

theorem ten_pow (j : Nat) : 10 ^ j = 2 ^ j * 5 ^ j := by rw [← Nat.mul_pow]

theorem ends_iff {n d : Nat} (hc : Nat.gcd n d = 1) (hd : 0 < d) (j : Nat) : n % d * 10 ^ j % d = 0 ↔ d ∣ 10 ^ j := by
  have hc' : Nat.Coprime d (n % d) := by
    show Nat.gcd d (n % d) = 1
    rw [Nat.gcd_comm, ← Nat.gcd_rec, Nat.gcd_comm]
    exact hc
  constructor
  · intro h
    exact hc'.dvd_of_dvd_mul_left (Nat.dvd_of_mod_eq_zero h)
  · intro h
    exact Nat.mod_eq_zero_of_dvd (Nat.dvd_trans h (Nat.dvd_mul_left _ _))

theorem ends_at {n d a b : Nat} (hc : Nat.gcd n d = 1) (hd : d = 2 ^ a * 5 ^ b) : n % d * 10 ^ (max a b) % d = 0 ∧ ∀ j, j < max a b → n % d * 10 ^ j % d ≠ 0 := by
  have hd0 : 0 < d := by rw [hd]; exact Nat.mul_pos (Nat.pow_pos (by decide)) (Nat.pow_pos (by decide))
  constructor
  · rw [ends_iff hc hd0, ten_pow, hd]
    exact Nat.mul_dvd_mul (Nat.pow_dvd_pow 2 (Nat.le_max_left a b)) (Nat.pow_dvd_pow 5 (Nat.le_max_right a b))
  · intro j hj h
    rw [ends_iff hc hd0, ten_pow] at h
    have h2 : 2 ^ a ∣ 2 ^ j * 5 ^ j := Nat.dvd_trans (by rw [hd]; exact Nat.dvd_mul_right _ _) h
    have h5 : 5 ^ b ∣ 2 ^ j * 5 ^ j := Nat.dvd_trans (by rw [hd]; exact Nat.dvd_mul_left _ _) h
    have c25 : ∀ x y, Nat.Coprime (2 ^ x) (5 ^ y) := fun x y => Nat.Coprime.pow x y (by decide)
    have k2 := (Nat.pow_dvd_pow_iff_le_right (by decide : 1 < 2)).1 ((c25 a j).dvd_of_dvd_mul_right h2)
    have k5 := (Nat.pow_dvd_pow_iff_le_right (by decide : 1 < 5)).1 ((c25 j b).symm.dvd_of_dvd_mul_left h5)
    have := Nat.max_le.2 ⟨k2, k5⟩
    omega

theorem ends_never {n d k g : Nat} (hc : Nat.gcd n d = 1) (hd0 : 0 < d) (hd : d = k * g) (h2 : g % 2 ≠ 0) (h5 : g % 5 ≠ 0) (h1 : g ≠ 1) : ∀ j, n % d * 10 ^ j % d ≠ 0 := by
  intro j h
  rw [ends_iff hc hd0] at h
  have hg : g ∣ 10 ^ j := Nat.dvd_trans (by rw [hd]; exact Nat.dvd_mul_left _ _) h
  have hco : Nat.Coprime g (10 ^ j) := by
    rw [ten_pow]
    exact Nat.Coprime.mul_right ((cop_two h2).pow_right j) ((cop_five h5).pow_right j)
  exact h1 (Nat.Coprime.eq_one_of_dvd hco hg)
end Go.Proofs.YtgdiepfknfnmjaaGreatDoor

namespace Go.Proofs.YtgdiepfknfnmjaaGreatDoor
open Go.RowKit
set_option linter.unusedVariables false

/-- v holds the bytes l, in memory from block 'base' on that may be written to. -/
def OwnB (w : World) (base : Nat) (v : Value) (l : List UInt8) : Prop := w.ownsRow base 5 1 v l.length (Lib.byteCells l)

theorem Tryz.infoU8 : (Tryz.prog.info? 5).map (fun i => (i.zero, i.size, i.bytes)) = some (some (.int .u8 0), 1, 1) := by kernel_rfl

theorem OwnB.nil (w : World) (base : Nat) : OwnB w base (.slice none 0 0) [] := World.ownsRow_nil _ _ _ _

theorem OwnB.shape {w : World} {base : Nat} {v : Value} {l : List UInt8} (h : OwnB w base v l) : ∃ ao cap, v = .slice ao l.length cap ∧ l.length ≤ cap ∧ cap ≤ 9223372036854775807 := by
  rcases h.2 with ⟨rfl, h0⟩ | ⟨g, cap, cur, rfl, hb, hh, h1, h2, h3, h4⟩
  · exact ⟨none, 0, by rw [h0], by omega, by omega⟩
  · exact ⟨_, cap, rfl, h1, by unfold maxLen at h2; omega⟩

theorem take_bytes_at {cur : Array Value} {l : List UInt8} (h : cur.toList.take (l.length * 1) = Lib.byteCells l) (i : Nat) (hi : i < l.length) : cur[i]? = some (.int .u8 (l[i].toNat : Nat)) := by
  have h2 : (cur.toList.take (l.length * 1))[i]? = (Lib.byteCells l)[i]? := by rw [h]
  rw [List.getElem?_take, if_pos (by omega)] at h2
  simpa [Lib.byteCells, hi] using h2

theorem OwnB.open {w : World} {base : Nat} {v : Value} {l : List UInt8} (h : OwnB w base v l) (h0 : 0 < l.length) : ∃ g cap, v = .slice (some ⟨g, 0, none⟩) l.length cap ∧ l.length ≤ cap ∧ cap ≤ 9223372036854775807 ∧ base ≤ g ∧ g < w.heap.size := by
  rcases h.2 with ⟨rfl, h1⟩ | ⟨g, cap, cur, rfl, hb, hh, h1, h2, h3, h4⟩
  · omega
  · exact ⟨g, cap, rfl, h1, by unfold maxLen at h2; omega, hb, (Array.getElem?_eq_some_iff.1 hh).1⟩

theorem OwnB.at {w : World} {base g cap : Nat} {l : List UInt8} (h : OwnB w base (.slice (some ⟨g, 0, none⟩) l.length cap) l) (i : Nat) (hi : i < l.length) :
    w.cell? ⟨g, i, none⟩ = some (.int .u8 (l[i].toNat : Nat)) ∧ w.frozen? ⟨g, i, none⟩ = false ∧
      ∀ (x : UInt8) (z : Int), z = (x.toNat : Int) → OwnB (w.setCell ⟨g, i, none⟩ (.int .u8 z)) base (.slice (some ⟨g, 0, none⟩) l.length cap) (l.set i x) := by
  rcases h.2 with ⟨h0, _⟩ | ⟨g', cap', cur, h0, hb, hh, h1, h2, h3, h4⟩
  · simp at h0
  · simp only [Value.slice.injEq, Option.some.injEq, Addr.mk.injEq, and_true, true_and] at h0
    obtain ⟨rfl, rfl⟩ := h0
    refine ⟨?_, ?_, ?_⟩
    · simp only [World.cell?, hh]
      exact take_bytes_at h4 i hi
    · simp [World.frozen?, hh]
    · intro x z hz
      refine ⟨by simp [Lib.byteCells], .inr ⟨g, cap, cur.setIfInBounds i (.int .u8 z), by simp, hb, ?_, by simpa using h1, h2, by simpa using h3, ?_⟩⟩
      · rw [heap_setCell_same w g i _ _ _ hh]
      · subst hz
        rw [Array.toList_setIfInBounds, List.length_set, List.take_set, h4]
        simp [Lib.byteCells, List.map_set]

theorem OwnB.keep {w w' : World} {base : Nat} {v : Value} {l : List UInt8} {row : Option Nat} (h : OwnB w base v l) (hg : w.grownBy w' row) (hne : ∀ k, row = some k → blockOf v ≠ some k) : OwnB w' base v l := by
  refine World.ownsRow.kept h hg ?_
  cases row with
  | none => cases hv : v.ownBlock <;> simp
  | some k =>
    right
    intro e
    refine hne k rfl ?_
    rw [← e]
    cases v <;> rfl

theorem OwnB.keep0 {w w' : World} {base : Nat} {v : Value} {l : List UInt8} (h : OwnB w base v l) (hg : w.grownBy w' none) : OwnB w' base v l := h.keep hg (fun _ e => by cases e)
theorem OwnB.alloc {w : World} {base : Nat} {v : Value} {l : List UInt8} (h : OwnB w base v l) (o : Obj) : OwnB (w.alloc o) base v l := World.ownsRow.alloc h o
theorem OwnB.drewN {w : World} {base : Nat} {v : Value} {l : List UInt8} (h : OwnB w base v l) (n : Nat) : OwnB (w.drewN n) base v l := h

/-- The byte's block. -/
theorem OwnB.fresh {w : World} {base : Nat} {v : Value} {l : List UInt8} (h : OwnB w base v l) : ∀ k, blockOf v = some k → base ≤ k ∧ k < w.heap.size := by
  intro k hk
  rcases h.2 with ⟨rfl, h0⟩ | ⟨g, cap, cur, rfl, hb, hh, h1, h2, h3, h4⟩
  · simp [blockOf] at hk
  · simp [blockOf] at hk
    subst hk
    exact ⟨hb, (Array.getElem?_eq_some_iff.1 hh).1⟩

theorem gr_own {w w1 w2 : World} {r : Option Nat} (h : w.grownBy w1 none) (k : w1.grownBy w2 r) (hb : ∀ b, r = some b → w.heap.size ≤ b) : w.grownBy w2 none :=
  gr_trans h k (fun _ _ e => e) (fun b hb' e => by have := hb b e.symm; omega)

theorem ownBlockB (v : Value) : v.ownBlock = blockOf v := by cases v <;> rfl

/-- One byte is appended. -/
theorem wpList_append_byte (w : World) {ops : Array Oper} {rest : List Oper} {o : Oper} {a : Act} {Q : Exit → Act → World → Prop} (hg : o.guard = none) (x y : Operand) (hop : o.op = Op.call { callee := .builtin .append, args := #[x, y], argTypes := #[108, 108] }) (base : Nat) (v : Value) (l : List UInt8) (hx : a.eval x = v) (g : Nat) (z : Int) (c : UInt8) (hz : z = (c.toNat : Int)) (hy : a.eval y = .slice (some ⟨g, 0, none⟩) 1 1) (hcell : w.cell? ⟨g, 0, none⟩ = some (.int .u8 z)) (h : OwnB w base v l) (hl : l.length ≤ 1000000000) (hb : base ≤ w.heap.size)
    (hK : ∀ v' w', OwnB w' base v' (l ++ [c]) → w.grownBy w' (blockOf v) → wpList Tryz.prog ops Q rest (a.put o.dst v') w') :
    wpList Tryz.prog ops Q (o :: rest) a w := by
  obtain ⟨i0, hi0, hz0, hz1, hz2⟩ := info_parts Tryz.infoU8
  refine wpList_append_own w hg x y 108 hop base 5 i0 (.int .u8 0) 1 1 Tryz.underlying108 hi0 hz0 hz1 hz2 rfl (by decide) v l.length (Lib.byteCells l) hx h ⟨g, 0, none⟩ 1 1 [.int .u8 z] hy rfl ?_ ?_ (by unfold maxLen; omega) (by omega) hb ?_
  · intro j u hj
    match j with
    | 0 =>
      simp only [List.getElem?_cons_zero, Option.some.injEq] at hj
      subst hj
      simpa [Addr.add] using hcell
    | j + 1 => simp at hj
  · intro u hu
    simp only [List.mem_singleton] at hu
    subst hu
    rfl
  · intro v' w' hown hgr _
    refine hK v' w' ?_ (by rw [← ownBlockB]; exact hgr)
    unfold OwnB
    rw [List.length_append, List.length_singleton]
    have e : Lib.byteCells (l ++ [c]) = Lib.byteCells l ++ [.int .u8 z] := by rw [hz]; simp [Lib.byteCells]
    rw [e]
    exact hown

/-- Several bytes of a string are appended. -/
theorem OwnB.string {w : World} {base : Nat} {v : Value} {l : List UInt8} (h : OwnB w base v l) (h0 : 0 < l.length) :
    (convert 108 9 v).run Tryz.prog w = .ok (.string ⟨l.toArray⟩) w := by
  obtain ⟨g, cap, rfl, _, _, _, _⟩ := h.open h0
  refine run_convert_bytes_back (P := Tryz.prog) w 108 9 5 ⟨g, 0, none⟩ cap l Tryz.underlying108 Tryz.underlying5 Tryz.underlying9 ?_
  intro j hj
  rw [show (⟨g, 0, none⟩ : Addr).add j = ⟨g, j, none⟩ from by simp [Addr.add]; exact Eq.symm]
  exact (h.at j hj).1

/-- Behind i swaps of a list that is turned about. -/
def swp (l : List UInt8) (i : Nat) : List UInt8 := (List.range l.length).map fun p => if p < i ∨ l.length < p + 1 + i then l.getD (l.length - 1 - p) 0 else l.getD p 0

theorem swp_length (l : List UInt8) (i : Nat) : (swp l i).length = l.length := by simp [swp]
theorem swp_get (l : List UInt8) (i p : Nat) (h : p < (swp l i).length) : (swp l i)[p] = if p < i ∨ l.length < p + 1 + i then l.getD (l.length - 1 - p) 0 else l.getD p 0 := by simp [swp]

theorem swp_zero (l : List UInt8) : swp l 0 = l := by
  apply List.ext_getElem (swp_length l 0)
  intro p h1 h2
  rw [swp_get, if_neg (by omega)]
  simp [List.getD, h2]

theorem swp_step (l : List UInt8) (i : Nat) (h : i + i + 1 < l.length) : ((swp l i).set i (l.getD (l.length - 1 - i) 0)).set (l.length - 1 - i) (l.getD i 0) = swp l (i + 1) := by
  apply List.ext_getElem (by simp [swp_length])
  intro p h1 h2
  rw [List.getElem_set, List.getElem_set, swp_get, swp_get]
  have hp : p < l.length := by simpa [swp_length] using h2
  by_cases e1 : l.length - 1 - i = p
  · rw [if_pos e1, if_pos (by omega), ← e1]
    congr 1
    omega
  · rw [if_neg e1]
    by_cases e2 : i = p
    · rw [if_pos e2, if_pos (by omega), e2]
    · rw [if_neg e2]
      by_cases e3 : p < i ∨ l.length < p + 1 + i
      · rw [if_pos e3, if_pos (by omega)]
      · rw [if_neg e3, if_neg (by omega)]

theorem swp_end (l : List UInt8) (i : Nat) (h : l.length ≤ i + i + 1) : swp l i = l.reverse := by
  apply List.ext_getElem (by simp [swp_length])
  intro p h1 h2
  have hp : p < l.length := by simpa [swp_length] using h1
  rw [swp_get, List.getElem_reverse]
  by_cases e : p < i ∨ l.length < p + 1 + i
  · rw [if_pos e]
    simp [List.getD, show l.length - 1 - p < l.length by omega]
  · rw [if_neg e]
    have e2 : l.length - 1 - p = p := by omega
    simp [List.getD, hp, e2]
end Go.Proofs.YtgdiepfknfnmjaaGreatDoor

namespace Go.Proofs.YtgdiepfknfnmjaaGreatDoor
open Go.RowKit
set_option linter.unusedVariables false

theorem off_row (g o i : Nat) : (⟨g, o, none⟩ : Addr).add i = ⟨g, o + i, none⟩ := by unfold Addr.add; split <;> simp_all

/-- Cells are stored ahead of a mark that lies at the row's end. -/
theorem store_ahead (P : Program) (g o : Nat) (t : TypeId) (fz : Nat × Nat) (vs : List Value) : ∀ (i : Nat) (cur : Array Value) (w : World), w.heap[g]? = some (.cells cur t fz) → cur.size ≤ fz.1 → o + i + vs.length ≤ cur.size → (∀ v ∈ vs, v.oneCell' = true) →
    (storeCells ⟨g, o, none⟩ vs i).run P w = .ok () (w.setRow g (cur.toList.take (o + i) ++ vs ++ cur.toList.drop (o + i + vs.length)).toArray) := by
  induction vs with
  | nil =>
    intro i cur w hg _ _ _
    have e : (cur.toList.take (o + i) ++ [] ++ cur.toList.drop (o + i + ([] : List Value).length)).toArray = cur := by simp
    rw [e, setRow_self w g cur t fz hg]
    rfl
  | cons v r ih =>
    intro i cur w hg hf hl h1
    rw [List.length_cons] at hl
    have hlt : o + i < cur.size := by omega
    have hc : w.cell? ⟨g, o + i, none⟩ = some cur[o + i] := by simp [World.cell?, hg, hlt]
    have hn : w.frozen? ⟨g, o + i, none⟩ = false := by
      cases fz with
      | mk lo hi =>
        simp only at hf
        simp only [World.frozen?, hg, Bool.and_eq_false_iff, decide_eq_false_iff_not]
        left
        omega
    have h0 : (store ((⟨g, o, none⟩ : Addr).add i) v).run P w = .ok () (w.setRow g (cur.setIfInBounds (o + i) v)) := by
      rw [off_row, run_store P w _ v _ (h1 v (by simp)), hc]
      simp [hn, setCell_eq_setRow w g (o + i) cur t fz v hg]
    have h2 := ih (i + 1) (cur.setIfInBounds (o + i) v) (w.setRow g (cur.setIfInBounds (o + i) v)) (setRow_heap w g cur _ t _ hg) (by simpa using hf) (by simp; omega) (fun x hx => h1 x (by simp [hx]))
    rw [storeCells, Sem.run_bind, h0, Result.andThen_ok, h2, setRow_setRow]
    congr 3
    have e := list_seg_step cur.toList (o + i) v r (by simp; omega)
    simpa [Array.toList_setIfInBounds, Nat.add_assoc] using e

/-- v holds the bytes l in memory from block 'base' on, with a mark behind its end or not. -/
def OwnM (w : World) (base : Nat) (v : Value) (l : List UInt8) : Prop :=
  ∃ g cap cur fz, v = .slice (some ⟨g, 0, none⟩) l.length cap ∧ base ≤ g ∧ w.heap[g]? = some (.cells cur 5 fz) ∧ (fz = (0, 0) ∨ cap ≤ fz.1) ∧ l.length ≤ cap ∧ cap ≤ maxLen ∧ cur.size = cap ∧ cur.toList.take l.length = Lib.byteCells l

theorem OwnM.shape {w : World} {base : Nat} {v : Value} {l : List UInt8} (h : OwnM w base v l) : ∃ g cap, v = .slice (some ⟨g, 0, none⟩) l.length cap ∧ l.length ≤ cap ∧ cap ≤ 9223372036854775807 ∧ base ≤ g ∧ g < w.heap.size := by
  obtain ⟨g, cap, cur, fz, h1, h2, h3, h4, h5, h6, h7, h8⟩ := h
  exact ⟨g, cap, h1, h5, by unfold maxLen at h6; omega, h2, (Array.getElem?_eq_some_iff.1 h3).1⟩

theorem OwnM.keep {w w' : World} {base : Nat} {v : Value} {l : List UInt8} {row : Option Nat} (h : OwnM w base v l) (hg : w.grownBy w' row) (hne : ∀ k, row = some k → blockOf v ≠ some k) : OwnM w' base v l := by
  obtain ⟨g, cap, cur, fz, h1, h2, h3, h4⟩ := h
  refine ⟨g, cap, cur, fz, h1, h2, ?_, h4⟩
  rw [hg.block g (Array.getElem?_eq_some_iff.1 h3).1 (fun e => hne g e.symm (by rw [h1]; rfl))]
  exact h3
theorem OwnM.keep0 {w w' : World} {base : Nat} {v : Value} {l : List UInt8} (h : OwnM w base v l) (hg : w.grownBy w' none) : OwnM w' base v l := h.keep hg (fun _ e => by cases e)

theorem OwnM.cells {w : World} {base g cap : Nat} {l : List UInt8} (h : OwnM w base (.slice (some ⟨g, 0, none⟩) l.length cap) l) (j : Nat) (hj : j < l.length) : w.cell? ⟨g, j, none⟩ = some (.int .u8 (l[j].toNat : Nat)) := by
  obtain ⟨g', cap', cur, fz, h1, h2, h3, h4, h5, h6, h7, h8⟩ := h
  simp only [Value.slice.injEq, Option.some.injEq, Addr.mk.injEq, and_true, true_and] at h1
  obtain ⟨rfl, rfl⟩ := h1
  simp only [World.cell?, h3]
  exact take_bytes_at (by rw [Nat.mul_one]; exact h8) j hj

theorem OwnM.string {w : World} {base : Nat} {v : Value} {l : List UInt8} (h : OwnM w base v l) :
    (convert 108 9 v).run Tryz.prog w = .ok (.string ⟨l.toArray⟩) w := by
  obtain ⟨g, cap, rfl, _, _, _, _⟩ := h.shape
  refine run_convert_bytes_back (P := Tryz.prog) w 108 9 5 ⟨g, 0, none⟩ cap l Tryz.underlying108 Tryz.underlying5 Tryz.underlying9 ?_
  intro j hj
  rw [off_row, Nat.zero_add]
  exact h.cells j hj

/-- '[]byte(s)'. -/
theorem conv_own (w : World) (s : ByteArray) (hs : s.size ≤ 1000000000) :
    ∃ v w', (convert 9 108 (.string s)).run Tryz.prog w = .ok v w' ∧ OwnM w' w.heap.size v s.data.toList ∧ w.grownBy w' none := by
  refine ⟨_, _, Lib.run_convert_string_bytes w 9 108 5 s Tryz.underlying9 Tryz.underlying108 Tryz.underlying5, ?_, ?_⟩
  · have hge := grownCap_ge w s.size 0 5
    have hcs : (Lib.bytesCells w 5 s).size = grownCap w s.size 0 5 := by
      simp [Lib.bytesCells]
      show s.size + _ = _
      omega
    refine ⟨w.heap.size, _, _, _, rfl, Nat.le_refl _, Lib.bytesWorld_at_new w 5 s, .inr ?_, ?_, ?_, hcs, ?_⟩
    · rw [hcs]; exact Nat.le_refl _
    · rw [Array.length_toList]; exact hge
    · exact grownCap_le_maxLen w s.size 0 5 (by unfold maxLen; omega)
    · rw [Lib.bytesCells, Array.toList_append, List.take_append_of_le_length (by simp)]
      simp [Lib.byteCells]
      exact List.take_of_length_le (by simp)
  · exact ⟨rfl, rfl, rfl, by rw [Lib.bytesWorld_size]; omega, fun k hk _ => Lib.bytesWorld_at_old w 5 s k hk⟩
end Go.Proofs.YtgdiepfknfnmjaaGreatDoor

namespace Go.Proofs.YtgdiepfknfnmjaaGreatDoor
open Go.RowKit
set_option linter.unusedVariables false

theorem store_any (P : Program) (g o : Nat) (t : TypeId) (fz : Nat × Nat) (vs : List Value) (cur : Array Value) (w : World) (hg : w.heap[g]? = some (.cells cur t fz)) (hf : fz = (0, 0) ∨ cur.size ≤ fz.1) (hl : o + vs.length ≤ cur.size) (h1 : ∀ v ∈ vs, v.oneCell' = true) :
    (storeCells ⟨g, o, none⟩ vs 0).run P w = .ok () (w.setRow g (cur.toList.take o ++ vs ++ cur.toList.drop (o + vs.length)).toArray) := by
  rcases hf with hf | hf
  · have := run_storeCells_atF P g o t fz vs 0 cur w hg (by rw [hf]; simp) (by simpa using hl) h1
    simpa using this
  · have := store_ahead P g o t fz vs 0 cur w hg hf (by simpa using hl) h1
    simpa using this

/-- What appending leaves. -/
def AppR (w : World) (base : Nat) (v : Value) (l : List UInt8) (v' : Value) (w' : World) : Prop := OwnM w' base v' l ∧ w.grownBy w' (blockOf v) ∧ (∀ j, blockOf v' = some j → blockOf v = some j ∨ w.heap.size ≤ j)

theorem app_room {w : World} {base g cap : Nat} {cur : Array Value} {fz : Nat × Nat} {l m : List UInt8} (hb : base ≤ g) (hg : w.heap[g]? = some (.cells cur 5 fz)) (hf : fz = (0, 0) ∨ cap ≤ fz.1) (hcap : cap ≤ maxLen) (hcs : cur.size = cap) (ht : cur.toList.take l.length = Lib.byteCells l) (hroom : l.length + m.length ≤ cap) :
    AppR w base (.slice (some ⟨g, 0, none⟩) l.length cap) (l ++ m) (.slice (some ⟨g, 0, none⟩) (l.length + m.length) cap) (w.setRow g (cur.toList.take l.length ++ Lib.byteCells m ++ cur.toList.drop (l.length + (Lib.byteCells m).length)).toArray) := by
  refine ⟨⟨g, cap, _, fz, by simp, hb, setRow_heap w g cur _ _ _ hg, hf, by simpa using hroom, hcap, ?_, ?_⟩, ⟨rfl, rfl, rfl, by simp, fun k _ hk => setRow_other w g k _ (fun e => hk (by simp [blockOf, e]))⟩, fun j hj => .inl hj⟩
  · simp [Lib.byteCells_length]
    omega
  · rw [ht, List.toList_toArray]
    have e : Lib.byteCells l ++ Lib.byteCells m = Lib.byteCells (l ++ m) := by simp [Lib.byteCells]
    rw [e, List.take_append_of_le_length (by rw [Lib.byteCells_length]; exact Nat.le_refl _)]
    exact List.take_of_length_le (by rw [Lib.byteCells_length]; exact Nat.le_refl _)

theorem app_grow {w : World} {base : Nat} {v : Value} {old : Nat} {l m : List UInt8} (hb : base ≤ w.heap.size) (h63 : l.length + m.length ≤ maxLen) :
    AppR w base v (l ++ m) (.slice (some ⟨w.heap.size, 0, none⟩) (l.length + m.length) (grownCap w (l.length + m.length) old 5))
      (w.drew.alloc (.cells ((Lib.byteCells l).toArray ++ (Lib.byteCells m).toArray ++ Builtin.zeroCells (Value.int .u8 0).cells (grownCap w (l.length + m.length) old 5 - (l.length + m.length))) 5)) := by
  have hge := grownCap_ge w (l.length + m.length) old 5
  refine ⟨⟨w.heap.size, grownCap w (l.length + m.length) old 5, _, (0, 0), by simp, hb, heap_alloc_new w.drew _, .inl rfl, by simpa using hge, grownCap_le_maxLen w _ old _ h63, ?_, ?_⟩, ⟨rfl, rfl, rfl, by simp, fun k hk _ => heap_alloc_old w.drew _ hk⟩, fun j hj => .inr (by simp [blockOf] at hj; omega)⟩
  · have hz1 : (Value.int IntKind.u8 0).cells.size = 1 := rfl
    simp only [Array.size_append, List.size_toArray, size_zeroCells, hz1, Lib.byteCells_length]
    omega
  · have e : Lib.byteCells l ++ Lib.byteCells m = Lib.byteCells (l ++ m) := by simp [Lib.byteCells]
    simp only [Array.toList_append]
    rw [e, List.take_append_of_le_length (by rw [Lib.byteCells_length]; exact Nat.le_refl _)]
    exact List.take_of_length_le (by rw [Lib.byteCells_length]; exact Nat.le_refl _)

theorem strCells_eq (s : ByteArray) : Lib.strCells s = Lib.byteCells s.data.toList := rfl

/-- append of a string's bytes. -/
theorem run_app_str (w : World) (base : Nat) (v : Value) (l : List UInt8) (s : ByteArray) (ty : TypeId) (h : OwnM w base v l) (hl : l.length + s.size ≤ 1000000000) (hb : base ≤ w.heap.size) :
    ∃ v' w', (Builtin.append_ #[108, 9] ty #[v, .string s]).run Tryz.prog w = .ok v' w' ∧ AppR w base v (l ++ s.data.toList) v' w' := by
  obtain ⟨i0, hi0, hz0, hz1, hz2⟩ := info_parts Tryz.infoU8
  obtain ⟨g, cap, cur, fz, rfl, h2, h3, h4, h5, h6, h7, h8⟩ := h
  have hsz : s.data.toList.length = s.size := by rw [Array.length_toList]; rfl
  by_cases hroom : l.length + s.size ≤ cap
  · have hf := Lib.run_firstCells_string (P := Tryz.prog) w 1 s
    have hst := store_any Tryz.prog g l.length 5 fz (Lib.strCells s) cur w h3 (by rw [h7]; exact h4) (by rw [Lib.strCells_length]; omega) (Lib.strCells_oneCell s)
    have hr : (Builtin.append_ #[108, 9] ty #[.slice (some ⟨g, 0, none⟩) l.length cap, .string s]).run Tryz.prog w = .ok (.slice (some ⟨g, 0, none⟩) (l.length + s.size) cap) (w.setRow g (cur.toList.take l.length ++ Lib.strCells s ++ cur.toList.drop (l.length + (Lib.strCells s).length)).toArray) := by
      simp only [Lib.strCells_length] at hst ⊢
      simp [Builtin.append_, run_underlying Tryz.underlying108, run_underlying Tryz.underlying9, sizeOf, typeInfo, hi0, hz1, Builtin.lenOf, hroom, hf, Addr.add_lit, hst]
    have ha := app_room (m := s.data.toList) h2 h3 h4 h6 h7 h8 (by rw [hsz]; exact hroom)
    rw [hsz] at ha
    exact ⟨_, _, hr, ha⟩
  · have holds : ∀ j u, (Lib.byteCells l)[j]? = some u → w.cell? ((⟨g, 0, none⟩ : Addr).add j) = some u := by
      intro j u hj
      rw [off_row, Nat.zero_add]
      have hj' : j < l.length := by have := (List.getElem?_eq_some_iff.1 hj).1; rw [Lib.byteCells_length] at this; exact this
      have := OwnM.cells (w := w) (base := base) (g := g) (cap := cap) (l := l) ⟨g, cap, cur, fz, rfl, h2, h3, h4, h5, h6, h7, h8⟩ j hj'
      rw [this]
      simpa [Lib.byteCells, hj'] using hj
    have hr := Lib.run_append_grow_string (P := Tryz.prog) w 108 9 ty 5 i0 (.int .u8 0) Tryz.underlying108 Tryz.underlying9 hi0 hz0 ⟨g, 0, none⟩ l.length cap (Lib.byteCells l) (by rw [hz1, Lib.byteCells_length, Nat.mul_one]) holds s (by omega) (by omega) (by rw [hz2]; exact growslice_fits (by omega) (by omega))
    have ha := app_grow (w := w) (base := base) (v := .slice (some ⟨g, 0, none⟩) l.length cap) (old := cap) (l := l) (m := s.data.toList) hb (by rw [hsz]; unfold maxLen; omega)
    rw [hsz] at ha
    exact ⟨_, _, hr, ha⟩

/-- append of one byte. -/
theorem run_app_byte (w : World) (base : Nat) (v : Value) (l : List UInt8) (a : Nat) (z : Int) (c : UInt8) (ty : TypeId) (h : OwnM w base v l) (hz : z = (c.toNat : Int)) (hc : w.cell? ⟨a, 0, none⟩ = some (.int .u8 z)) (hl : l.length ≤ 1000000000) (hb : base ≤ w.heap.size) :
    ∃ v' w', (Builtin.append_ #[108, 108] ty #[v, .slice (some ⟨a, 0, none⟩) 1 1]).run Tryz.prog w = .ok v' w' ∧ AppR w base v (l ++ [c]) v' w' := by
  obtain ⟨i0, hi0, hz0, hz1, hz2⟩ := info_parts Tryz.infoU8
  obtain ⟨g, cap, cur, fz, rfl, h2, h3, h4, h5, h6, h7, h8⟩ := h
  have e1 : Lib.byteCells [c] = [.int .u8 z] := by rw [hz]; rfl
  have hnews : ∀ j u, (Lib.byteCells [c])[j]? = some u → w.cell? ((⟨a, 0, none⟩ : Addr).add j) = some u := by
    intro j u hj
    rw [e1] at hj
    match j with
    | 0 =>
      simp only [List.getElem?_cons_zero, Option.some.injEq] at hj
      subst hj
      rw [off_row]
      exact hc
    | j + 1 => simp at hj
  have hone : ∀ u ∈ Lib.byteCells [c], u.oneCell' = true := by
    intro u hu
    rw [e1] at hu
    simp only [List.mem_singleton] at hu
    subst hu
    rfl
  by_cases hroom : l.length + 1 ≤ cap
  · have hf := run_firstCells_some (P := Tryz.prog) w i0.size 1 ⟨a, 0, none⟩ 1 1 (Lib.byteCells [c]) (by rw [hz1]; rfl) hnews
    have hst := store_any Tryz.prog g l.length 5 fz (Lib.byteCells [c]) cur w h3 (by rw [h7]; exact h4) (by rw [Lib.byteCells_length]; simp; omega) hone
    have hr : (Builtin.append_ #[108, 108] ty #[.slice (some ⟨g, 0, none⟩) l.length cap, .slice (some ⟨a, 0, none⟩) 1 1]).run Tryz.prog w = .ok (.slice (some ⟨g, 0, none⟩) (l.length + 1) cap) (w.setRow g (cur.toList.take l.length ++ Lib.byteCells [c] ++ cur.toList.drop (l.length + (Lib.byteCells [c]).length)).toArray) := by
      rw [hz1] at hf
      simp [Builtin.append_, run_underlying Tryz.underlying108, sizeOf, typeInfo, hi0, hz1, Builtin.lenOf, hroom, hf, Addr.add_lit, hst]
    exact ⟨_, _, hr, app_room (m := [c]) h2 h3 h4 h6 h7 h8 (by simpa using hroom)⟩
  · have holds : ∀ j u, (Lib.byteCells l)[j]? = some u → w.cell? ((⟨g, 0, none⟩ : Addr).add j) = some u := by
      intro j u hj
      rw [off_row, Nat.zero_add]
      have hj' : j < l.length := by have := (List.getElem?_eq_some_iff.1 hj).1; rw [Lib.byteCells_length] at this; exact this
      have := OwnM.cells (w := w) (base := base) (g := g) (cap := cap) (l := l) ⟨g, cap, cur, fz, rfl, h2, h3, h4, h5, h6, h7, h8⟩ j hj'
      rw [this]
      simpa [Lib.byteCells, hj'] using hj
    have hr := run_append_grow (P := Tryz.prog) w 108 ty 5 i0 (.int .u8 0) Tryz.underlying108 hi0 hz0 ⟨g, 0, none⟩ l.length cap (Lib.byteCells l) (by rw [hz1, Lib.byteCells_length, Nat.mul_one]) holds ⟨a, 0, none⟩ 1 1 (Lib.byteCells [c]) (by rw [hz1]; rfl) hnews (by omega) (by omega) (by rw [hz2]; exact growslice_fits (by omega) (by omega))
    exact ⟨_, _, hr, app_grow (m := [c]) hb (by unfold maxLen; simp; omega)⟩

theorem wpList_app_str (w : World) {ops : Array Oper} {rest : List Oper} {o : Oper} {a : Act} {Q : Exit → Act → World → Prop} (hg : o.guard = none) (x y : Operand) (hop : o.op = Op.call { callee := .builtin .append, args := #[x, y], argTypes := #[108, 9] }) (base : Nat) (v : Value) (l : List UInt8) (s : ByteArray) (hx : a.eval x = v) (hy : a.eval y = .string s) (h : OwnM w base v l) (hl : l.length + s.size ≤ 1000000000) (hb : base ≤ w.heap.size)
    (hK : ∀ v' w', OwnM w' base v' (l ++ s.data.toList) → w.grownBy w' (blockOf v) → (∀ j, blockOf v' = some j → blockOf v = some j ∨ w.heap.size ≤ j) → wpList Tryz.prog ops Q rest (a.put o.dst v') w') :
    wpList Tryz.prog ops Q (o :: rest) a w := by
  refine wpList_plain hg fun K hK2 => ?_
  obtain ⟨v', w', hr, h2, h3, h4⟩ := run_app_str w base v l s o.type h hl hb
  unfold Oper.wp execOp
  simp only [hop, resolve, invoke, builtin, Sem.run_bind, Sem.run_pure, Result.andThen_ok, List.map_toArray, List.map_cons, List.map_nil, hx, hy, hr]
  exact hK2 _ _ (hK v' w' h2 h3 h4)

theorem wpList_app_byte (w : World) {ops : Array Oper} {rest : List Oper} {o : Oper} {a : Act} {Q : Exit → Act → World → Prop} (hg : o.guard = none) (x y : Operand) (hop : o.op = Op.call { callee := .builtin .append, args := #[x, y], argTypes := #[108, 108] }) (base : Nat) (v : Value) (l : List UInt8) (hx : a.eval x = v) (g : Nat) (z : Int) (c : UInt8) (hz : z = (c.toNat : Int)) (hy : a.eval y = .slice (some ⟨g, 0, none⟩) 1 1) (hcell : w.cell? ⟨g, 0, none⟩ = some (.int .u8 z)) (h : OwnM w base v l) (hl : l.length ≤ 1000000000) (hb : base ≤ w.heap.size)
    (hK : ∀ v' w', OwnM w' base v' (l ++ [c]) → w.grownBy w' (blockOf v) → (∀ j, blockOf v' = some j → blockOf v = some j ∨ w.heap.size ≤ j) → wpList Tryz.prog ops Q rest (a.put o.dst v') w') :
    wpList Tryz.prog ops Q (o :: rest) a w := by
  refine wpList_plain hg fun K hK2 => ?_
  obtain ⟨v', w', hr, h2, h3, h4⟩ := run_app_byte w base v l g z c o.type h hz hcell hl hb
  unfold Oper.wp execOp
  simp only [hop, resolve, invoke, builtin, Sem.run_bind, Sem.run_pure, Result.andThen_ok, List.map_toArray, List.map_cons, List.map_nil, hx, hy, hr]
  exact hK2 _ _ (hK v' w' h2 h3 h4)
end Go.Proofs.YtgdiepfknfnmjaaGreatDoor

namespace Go.Proofs.YtgdiepfknfnmjaaGreatDoor
open Go.RowKit
set_option linter.unusedVariables false
set_option linter.unusedSimpArgs false

/-- How two numbers compare. -/
def cmpR (p q : Rat) : Int := if p < q then -1 else if q < p then 1 else 0

theorem cmp_diff (p q : Rat) (h : p.num.sign ≠ q.num.sign) : sgn (p.num.sign - q.num.sign) = cmpR p q := by
  have hp := p.den_pos
  have hq := q.den_pos
  unfold cmpR sgn
  simp only [Rat.lt_iff]
  rcases Int.lt_trichotomy p.num 0 with a | a | a <;> rcases Int.lt_trichotomy q.num 0 with b | b | b
  · rw [Int.sign_eq_neg_one_of_neg a, Int.sign_eq_neg_one_of_neg b] at h; exact absurd rfl h
  · rw [Int.sign_eq_neg_one_of_neg a, b]
    have : p.num * (q.den : Int) < 0 := Int.mul_neg_of_neg_of_pos a (by omega)
    simp [this]
  · rw [Int.sign_eq_neg_one_of_neg a, Int.sign_eq_one_of_pos b]
    have h1 : p.num * (q.den : Int) < 0 := Int.mul_neg_of_neg_of_pos a (by omega)
    have h2 : 0 < q.num * (p.den : Int) := Int.mul_pos b (by omega)
    rw [if_pos (by omega), if_pos (by omega)]
  · rw [Int.sign_eq_neg_one_of_neg b, a]
    have : q.num * (p.den : Int) < 0 := Int.mul_neg_of_neg_of_pos b (by omega)
    have h2 : ¬ (0 : Int) < q.num * (p.den : Int) := by omega
    simp [this, h2]
  · rw [a, b] at h; exact absurd rfl h
  · rw [a, Int.sign_eq_one_of_pos b]
    have h2 : 0 < q.num * (p.den : Int) := Int.mul_pos b (by omega)
    simp [h2]
  · rw [Int.sign_eq_one_of_pos a, Int.sign_eq_neg_one_of_neg b]
    have h1 : q.num * (p.den : Int) < 0 := Int.mul_neg_of_neg_of_pos b (by omega)
    have h2 : 0 < p.num * (q.den : Int) := Int.mul_pos a (by omega)
    rw [if_neg (by omega), if_pos (by omega), if_neg (by omega), if_pos (by omega)]
  · rw [Int.sign_eq_one_of_pos a, b]
    have h2 : 0 < p.num * (q.den : Int) := Int.mul_pos a (by omega)
    have h3 : ¬ p.num * (q.den : Int) < 0 := by omega
    simp [h2, h3]
  · rw [Int.sign_eq_one_of_pos a, Int.sign_eq_one_of_pos b] at h; exact absurd rfl h

theorem cmp_same (p q : Rat) (h : p.num.sign = q.num.sign) : p.num.sign * ord (rN p * q.den) (rN q * p.den) = cmpR p q := by
  have hp := p.den_pos
  have hq := q.den_pos
  unfold cmpR ord
  simp only [Rat.lt_iff]
  obtain ⟨X, hX⟩ : ∃ X : Nat, X = rN p * q.den := ⟨_, rfl⟩
  obtain ⟨Y, hY⟩ : ∃ Y : Nat, Y = rN q * p.den := ⟨_, rfl⟩
  rw [← hX, ← hY]
  rcases Int.lt_trichotomy p.num 0 with a | a | a
  · have b : q.num < 0 := by
      rw [Int.sign_eq_neg_one_of_neg a] at h
      exact Int.sign_eq_neg_one_iff_neg.1 h.symm
    have e1 : p.num * (q.den : Int) = -(X : Int) := by
      rw [hX, Int.natCast_mul, show p.num = -((rN p : Nat) : Int) from by unfold rN; omega, Int.neg_mul]
    have e2 : q.num * (p.den : Int) = -(Y : Int) := by
      rw [hY, Int.natCast_mul, show q.num = -((rN q : Nat) : Int) from by unfold rN; omega, Int.neg_mul]
    rw [e1, e2, Int.sign_eq_neg_one_of_neg a]
    split <;> split <;> (try split) <;> (try split) <;> omega
  · have b : q.num = 0 := by
      rw [a] at h
      exact Int.sign_eq_zero_iff_zero.1 h.symm
    rw [a, b]
    simp
  · have b : 0 < q.num := by
      rw [Int.sign_eq_one_of_pos a] at h
      exact Int.sign_eq_one_iff_pos.1 h.symm
    have e1 : p.num * (q.den : Int) = (X : Int) := by
      rw [hX, Int.natCast_mul, show p.num = ((rN p : Nat) : Int) from by unfold rN; omega]
    have e2 : q.num * (p.den : Int) = (Y : Int) := by
      rw [hY, Int.natCast_mul, show q.num = ((rN q : Nat) : Int) from by unfold rN; omega]
    rw [e1, e2, Int.sign_eq_one_of_pos a]
    split <;> split <;> (try split) <;> (try split) <;> omega

set_option maxHeartbeats 8000000 in
set_option maxRecDepth 10000 in
theorem fCompare_at (x y : Value) (p q : Rat) (L1 L2 : Nat) (w : World) (hx : FQ w x p L1) (hy : FQ w y q L2) (hl : L1 + L2 ≤ 700000000) :
    Calls Tryz.prog 76 #[x, y] w fun e w' => e = .returned (.int .i64 (cmpR p q)) ∧ w.grownBy w' none := by
  have HX := hide hx
  have HY := hide hy
  obtain ⟨uo, ul, uc, do_, dl, dc, rfl⟩ := hx.shape
  obtain ⟨vo, vl, vc, eo, el, ec, rfl⟩ := hy.shape
  have NX := hide hx.parts.1
  have NY := hide hy.parts.1
  clear hx hy
  obtain ⟨W, hW⟩ : ∃ W, W = (w.alloc (Obj.cells #[.bool (rB p), .slice uo ul uc, .slice do_ dl dc] 45)).alloc (Obj.cells #[.bool (rB q), .slice vo vl vc, .slice eo el ec] 45) := ⟨_, rfl⟩
  have GW : Hid (w.grownBy W none) := by rw [hW]; exact gr_alloc (gr_alloc (gr_refl _ _) _) _
  have CELLS : Hid (∀ wx, W.grownBy wx none → wx.cell? ⟨w.heap.size, 0, none⟩ = some (.bool (rB p)) ∧ wx.cell? ⟨w.heap.size, 1, none⟩ = some (.slice uo ul uc) ∧ wx.cell? ⟨w.heap.size, 2, none⟩ = some (.slice do_ dl dc) ∧ wx.cell? ⟨w.heap.size + 1, 0, none⟩ = some (.bool (rB q)) ∧ wx.cell? ⟨w.heap.size + 1, 1, none⟩ = some (.slice vo vl vc) ∧ wx.cell? ⟨w.heap.size + 1, 2, none⟩ = some (.slice eo el ec)) := by
    intro wx hg
    rw [hW] at hg
    have a1 := box_three (gr_none (gr_alloc (gr_refl _ none) _) hg)
    have a2 := box_three hg
    rw [show (w.alloc (Obj.cells #[.bool (rB p), .slice uo ul uc, .slice do_ dl dc] 45)).heap.size = w.heap.size + 1 from by simp] at a2
    exact ⟨a1.1, a1.2.1, a1.2.2, a2⟩
  have GC : W.grownBy W none := gr_refl _ _
  obtain ⟨s0, s1, s2, s3, s4, s5⟩ := CELLS.out W GC
  have hsp : -1 ≤ p.num.sign ∧ p.num.sign ≤ 1 := by
    rcases Int.sign_trichotomy p.num with h | h | h <;> omega
  have hsq : -1 ≤ q.num.sign ∧ q.num.sign ≤ 1 := by
    rcases Int.sign_trichotomy q.num with h | h | h <;> omega
  obtain ⟨hsp1, hsp2⟩ := hsp
  obtain ⟨hsq1, hsq2⟩ := hsq
  obtain ⟨sp, esp⟩ : ∃ s, s = p.num.sign := ⟨_, rfl⟩
  obtain ⟨sq, esq⟩ : ∃ s, s = q.num.sign := ⟨_, rfl⟩
  have ESP := hide esp
  have ESQ := hide esq
  rw [← esp] at hsp1 hsp2
  rw [← esq] at hsq1 hsq2
  clear esp esq
  go_enter Tryz.func76, Tryz.ntmps76
  go_wp2
  rw [← hW]
  clear hW
  go_cut [9] (fun s9 wx => Hid (W.grownBy wx none ∧ s9 = .bool (sp != sq)))
  case first =>
    go_region_held3 (fun w' => w'.cell? ⟨w.heap.size, 0, none⟩ = some (.bool (rB p)) ∧ w'.cell? ⟨w.heap.size, 1, none⟩ = some (.slice uo ul uc) ∧ w'.cell? ⟨w.heap.size, 2, none⟩ = some (.slice do_ dl dc) ∧ w'.cell? ⟨w.heap.size + 1, 0, none⟩ = some (.bool (rB q)) ∧ w'.cell? ⟨w.heap.size + 1, 1, none⟩ = some (.slice vo vl vc) ∧ w'.cell? ⟨w.heap.size + 1, 2, none⟩ = some (.slice eo el ec)) (go_keep)
      (first | (go_at_call_of 33 (Value.agg #[.bool (rB p), .slice uo ul uc, .slice do_ dl dc]); refine (fSign_at _ p L1 _ (HX.out.keep0 (gr_none GW.out (by first | exact GC | exact gr_none GC (gr_d _) | exact gr_none GC gr_d1 | exact gr_none GC (gr_drewN (gr_refl _ _) 1))))).mono ?_; rintro e wsx ⟨rfl, gs⟩; (try have b1 := b1.keep0 (gr_none (by first | exact gr_refl _ _ | exact gr_d _ | exact gr_d1) gs)); (try have t1 := t1.keep0 (gr_none (by first | exact gr_refl _ _ | exact gr_d _ | exact gr_d1) gs)); (try have b2 := b2.keep0 (gr_none (by first | exact gr_refl _ _ | exact gr_d _ | exact gr_d1) gs)); (try have t2 := t2.keep0 (gr_none (by first | exact gr_refl _ _ | exact gr_d _ | exact gr_d1) gs)); have GC : W.grownBy wsx none := gr_none (by first | exact GC | exact gr_none GC (gr_d _) | exact gr_none GC gr_d1 | exact gr_none GC (gr_drewN (gr_refl _ _) 1)) gs; obtain ⟨a0, a1, a2, a3, a4, a5⟩ := CELLS.out wsx GC) | (go_at_call_of 33 (Value.agg #[.bool (rB q), .slice vo vl vc, .slice eo el ec]); refine (fSign_at _ q L2 _ (HY.out.keep0 (gr_none GW.out (by first | exact GC | exact gr_none GC (gr_d _) | exact gr_none GC gr_d1 | exact gr_none GC (gr_drewN (gr_refl _ _) 1))))).mono ?_; rintro e wsy ⟨rfl, gs⟩; (try have b1 := b1.keep0 (gr_none (by first | exact gr_refl _ _ | exact gr_d _ | exact gr_d1) gs)); (try have t1 := t1.keep0 (gr_none (by first | exact gr_refl _ _ | exact gr_d _ | exact gr_d1) gs)); (try have b2 := b2.keep0 (gr_none (by first | exact gr_refl _ _ | exact gr_d _ | exact gr_d1) gs)); (try have t2 := t2.keep0 (gr_none (by first | exact gr_refl _ _ | exact gr_d _ | exact gr_d1) gs)); have GC : W.grownBy wsy none := gr_none (by first | exact GC | exact gr_none GC (gr_d _) | exact gr_none GC gr_d1 | exact gr_none GC (gr_drewN (gr_refl _ _) 1)) gs; obtain ⟨a0, a1, a2, a3, a4, a5⟩ := CELLS.out wsy GC))
    all_goals
      rw [← ESP.out, ← ESQ.out]
      go_wp2_with fail
      go_meet
      exact ⟨(by first | exact GC | exact gr_none GC (gr_d _) | exact gr_none GC gr_d1 | exact gr_none GC (gr_drewN (gr_refl _ _) 1)), by first | rfl | simp⟩
  case rest =>
    obtain ⟨hG, rfl⟩ := hcut.out
    clear GC
    have GC := hG
    clear hG hcut s0 s1 s2 s3 s4 s5
    obtain ⟨s0, s1, s2, s3, s4, s5⟩ := CELLS.out wc GC
    by_cases hs : sp = sq
    · have hss : (sp != sq) = false := by simp [hs]
      rw [hss]
      have HC : Hid (p.num.sign * ord (rN p * q.den) (rN q * p.den) = cmpR p q) := cmp_same p q (by rw [← ESP.out, ← ESQ.out]; exact hs)
      have ho1 : -1 ≤ ord (rN p * q.den) (rN q * p.den) := by unfold ord; split <;> (try split) <;> omega
      have ho2 : ord (rN p * q.den) (rN q * p.den) ≤ 1 := by unfold ord; split <;> (try split) <;> omega
      obtain ⟨oo, hoo⟩ : ∃ o, o = ord (rN p * q.den) (rN q * p.den) := ⟨_, rfl⟩
      rw [← hoo] at HC ho1 ho2
      have HOO := hide hoo
      have hm1 : -1 ≤ sp * oo := by
        have h1 : oo = -1 ∨ oo = 0 ∨ oo = 1 := by omega
        have h2 : sp = -1 ∨ sp = 0 ∨ sp = 1 := by omega
        rcases h1 with h1 | h1 | h1 <;> rcases h2 with h2 | h2 | h2 <;> rw [h1, h2] <;> decide
      have hm2 : sp * oo ≤ 1 := by
        have h1 : oo = -1 ∨ oo = 0 ∨ oo = 1 := by omega
        have h2 : sp = -1 ∨ sp = 0 ∨ sp = 1 := by omega
        rcases h1 with h1 | h1 | h1 <;> rcases h2 with h2 | h2 | h2 <;> rw [h1, h2] <;> decide
      clear hoo hs
      go_wp2
      go_region_held3 (fun w' => w'.cell? ⟨w.heap.size, 0, none⟩ = some (.bool (rB p)) ∧ w'.cell? ⟨w.heap.size, 1, none⟩ = some (.slice uo ul uc) ∧ w'.cell? ⟨w.heap.size, 2, none⟩ = some (.slice do_ dl dc) ∧ w'.cell? ⟨w.heap.size + 1, 0, none⟩ = some (.bool (rB q)) ∧ w'.cell? ⟨w.heap.size + 1, 1, none⟩ = some (.slice vo vl vc) ∧ w'.cell? ⟨w.heap.size + 1, 2, none⟩ = some (.slice eo el ec)) (go_keep)
        (first | (go_at_call_of 33 (Value.agg #[.bool (rB p), .slice uo ul uc, .slice do_ dl dc]); refine (fSign_at _ p L1 _ (HX.out.keep0 (gr_none GW.out (by first | exact GC | exact gr_none GC (gr_d _) | exact gr_none GC gr_d1 | exact gr_none GC (gr_drewN (gr_refl _ _) 1))))).mono ?_; rintro e wsx ⟨rfl, gs⟩; (try have b1 := b1.keep0 (gr_none (by first | exact gr_refl _ _ | exact gr_d _ | exact gr_d1) gs)); (try have t1 := t1.keep0 (gr_none (by first | exact gr_refl _ _ | exact gr_d _ | exact gr_d1) gs)); (try have b2 := b2.keep0 (gr_none (by first | exact gr_refl _ _ | exact gr_d _ | exact gr_d1) gs)); (try have t2 := t2.keep0 (gr_none (by first | exact gr_refl _ _ | exact gr_d _ | exact gr_d1) gs)); have GC : W.grownBy wsx none := gr_none (by first | exact GC | exact gr_none GC (gr_d _) | exact gr_none GC gr_d1 | exact gr_none GC (gr_drewN (gr_refl _ _) 1)) gs; obtain ⟨a0, a1, a2, a3, a4, a5⟩ := CELLS.out wsx GC; rw [← ESP.out]) | (go_at_call_of 65 (Value.agg #[.bool (rB q), .slice vo vl vc, .slice eo el ec]); refine (bar_at _ _ _ _ L2 _ (HY.out.keep0 (gr_none GW.out (by first | exact GC | exact gr_none GC (gr_d _) | exact gr_none GC gr_d1 | exact gr_none GC (gr_drewN (gr_refl _ _) 1))))).mono ?_; rintro e wb1 ⟨vb1, rfl, b1, gb⟩; obtain ⟨bo1, bl1, bc1, rfl, _, _, _⟩ := b1.shape; (try have t1 := t1.keep0 (gr_none (by first | exact gr_refl _ _ | exact gr_d _ | exact gr_d1) gb)); (try have b2 := b2.keep0 (gr_none (by first | exact gr_refl _ _ | exact gr_d _ | exact gr_d1) gb)); (try have t2 := t2.keep0 (gr_none (by first | exact gr_refl _ _ | exact gr_d _ | exact gr_d1) gb)); have GC : W.grownBy wb1 none := gr_none (by first | exact GC | exact gr_none GC (gr_d _) | exact gr_none GC gr_d1 | exact gr_none GC (gr_drewN (gr_refl _ _) 1)) gb; obtain ⟨a0, a1, a2, a3, a4, a5⟩ := CELLS.out wb1 GC) | (go_at_call_of 65 (Value.agg #[.bool (rB p), .slice uo ul uc, .slice do_ dl dc]); refine (bar_at _ _ _ _ L1 _ (HX.out.keep0 (gr_none GW.out (by first | exact GC | exact gr_none GC (gr_d _) | exact gr_none GC gr_d1 | exact gr_none GC (gr_drewN (gr_refl _ _) 1))))).mono ?_; rintro e wb2 ⟨vb2, rfl, b2, gb⟩; obtain ⟨bo2, bl2, bc2, rfl, _, _, _⟩ := b2.shape; (try have t1 := t1.keep0 (gr_none (by first | exact gr_refl _ _ | exact gr_d _ | exact gr_d1) gb)); (try have b1 := b1.keep0 (gr_none (by first | exact gr_refl _ _ | exact gr_d _ | exact gr_d1) gb)); (try have t2 := t2.keep0 (gr_none (by first | exact gr_refl _ _ | exact gr_d _ | exact gr_d1) gb)); have GC : W.grownBy wb2 none := gr_none (by first | exact GC | exact gr_none GC (gr_d _) | exact gr_none GC gr_d1 | exact gr_none GC (gr_drewN (gr_refl _ _) 1)) gb; obtain ⟨a0, a1, a2, a3, a4, a5⟩ := CELLS.out wb2 GC) | (go_at_call_of 63 (Value.slice uo ul uc); refine (times_num _ _ (rN p) q.den L1 (L2 + 1) _ (NX.out.keep0 (gr_none GW.out (by first | exact GC | exact gr_none GC (gr_d _) | exact gr_none GC gr_d1 | exact gr_none GC (gr_drewN (gr_refl _ _) 1)))) (b1.keep0 (by first | exact gr_refl _ _ | exact gr_d _ | exact gr_d1)) (by omega)).mono ?_; rintro e wt1 ⟨vt1, rfl, t1, gt, _⟩; obtain ⟨to1, tl1, tc1, rfl, _, _, _⟩ := t1.shape; (try have b1 := b1.keep0 (gr_none (by first | exact gr_refl _ _ | exact gr_d _ | exact gr_d1) gt)); (try have b2 := b2.keep0 (gr_none (by first | exact gr_refl _ _ | exact gr_d _ | exact gr_d1) gt)); (try have t2 := t2.keep0 (gr_none (by first | exact gr_refl _ _ | exact gr_d _ | exact gr_d1) gt)); have GC : W.grownBy wt1 none := gr_none (by first | exact GC | exact gr_none GC (gr_d _) | exact gr_none GC gr_d1 | exact gr_none GC (gr_drewN (gr_refl _ _) 1)) gt; obtain ⟨a0, a1, a2, a3, a4, a5⟩ := CELLS.out wt1 GC) | (go_at_call_of 63 (Value.slice vo vl vc); refine (times_num _ _ (rN q) p.den L2 (L1 + 1) _ (NY.out.keep0 (gr_none GW.out (by first | exact GC | exact gr_none GC (gr_d _) | exact gr_none GC gr_d1 | exact gr_none GC (gr_drewN (gr_refl _ _) 1)))) (b2.keep0 (by first | exact gr_refl _ _ | exact gr_d _ | exact gr_d1)) (by omega)).mono ?_; rintro e wt2 ⟨vt2, rfl, t2, gt, _⟩; obtain ⟨to2, tl2, tc2, rfl, _, _, _⟩ := t2.shape; (try have b1 := b1.keep0 (gr_none (by first | exact gr_refl _ _ | exact gr_d _ | exact gr_d1) gt)); (try have b2 := b2.keep0 (gr_none (by first | exact gr_refl _ _ | exact gr_d _ | exact gr_d1) gt)); (try have t1 := t1.keep0 (gr_none (by first | exact gr_refl _ _ | exact gr_d _ | exact gr_d1) gt)); have GC : W.grownBy wt2 none := gr_none (by first | exact GC | exact gr_none GC (gr_d _) | exact gr_none GC gr_d1 | exact gr_none GC (gr_drewN (gr_refl _ _) 1)) gt; obtain ⟨a0, a1, a2, a3, a4, a5⟩ := CELLS.out wt2 GC) | (go_at_call 105; refine (fcompare_num _ _ (rN p * q.den) (rN q * p.den) _ _ _ (t1.keep0 (by first | exact gr_refl _ _ | exact gr_d _ | exact gr_d1)) (t2.keep0 (by first | exact gr_refl _ _ | exact gr_d _ | exact gr_d1))).mono ?_; rintro e wcm ⟨rfl, qc, rfl⟩; rw [← HOO.out]))
      all_goals
        go_wp2
        go_ret
        refine ⟨?_, gr_none GW.out (by first | exact GC | exact gr_none GC (gr_d _) | exact gr_none GC gr_d1 | exact gr_none GC (gr_drewN (gr_refl _ _) 1))⟩
        have hc := HC.out
        rw [← ESP.out] at hc
        rw [← hc]
        first | rfl | (show Ending.returned (Value.int .i64 (IntKind.i64.wrap (sp * oo))) = _; rw [IntWalk.i64_in _ ⟨by omega, by omega⟩])
    · have hss : (sp != sq) = true := by simp [hs]
      rw [hss]
      have HC : Hid (sgn (sp - sq) = cmpR p q) := by
        show _ = _
        rw [ESP.out, ESQ.out]
        exact cmp_diff p q (by rw [← ESP.out, ← ESQ.out]; exact hs)
      clear hs
      go_wp2
      go_region_held3 (fun w' => w'.cell? ⟨w.heap.size, 0, none⟩ = some (.bool (rB p)) ∧ w'.cell? ⟨w.heap.size, 1, none⟩ = some (.slice uo ul uc) ∧ w'.cell? ⟨w.heap.size, 2, none⟩ = some (.slice do_ dl dc) ∧ w'.cell? ⟨w.heap.size + 1, 0, none⟩ = some (.bool (rB q)) ∧ w'.cell? ⟨w.heap.size + 1, 1, none⟩ = some (.slice vo vl vc) ∧ w'.cell? ⟨w.heap.size + 1, 2, none⟩ = some (.slice eo el ec)) (go_keep)
        (first | (go_at_call_of 33 (Value.agg #[.bool (rB p), .slice uo ul uc, .slice do_ dl dc]); refine (fSign_at _ p L1 _ (HX.out.keep0 (gr_none GW.out (by first | exact GC | exact gr_none GC (gr_d _) | exact gr_none GC gr_d1 | exact gr_none GC (gr_drewN (gr_refl _ _) 1))))).mono ?_; rintro e wsx ⟨rfl, gs⟩; (try have b1 := b1.keep0 (gr_none (by first | exact gr_refl _ _ | exact gr_d _ | exact gr_d1) gs)); (try have t1 := t1.keep0 (gr_none (by first | exact gr_refl _ _ | exact gr_d _ | exact gr_d1) gs)); (try have b2 := b2.keep0 (gr_none (by first | exact gr_refl _ _ | exact gr_d _ | exact gr_d1) gs)); (try have t2 := t2.keep0 (gr_none (by first | exact gr_refl _ _ | exact gr_d _ | exact gr_d1) gs)); have GC : W.grownBy wsx none := gr_none (by first | exact GC | exact gr_none GC (gr_d _) | exact gr_none GC gr_d1 | exact gr_none GC (gr_drewN (gr_refl _ _) 1)) gs; obtain ⟨a0, a1, a2, a3, a4, a5⟩ := CELLS.out wsx GC; rw [← ESP.out]) | (go_at_call_of 33 (Value.agg #[.bool (rB q), .slice vo vl vc, .slice eo el ec]); refine (fSign_at _ q L2 _ (HY.out.keep0 (gr_none GW.out (by first | exact GC | exact gr_none GC (gr_d _) | exact gr_none GC gr_d1 | exact gr_none GC (gr_drewN (gr_refl _ _) 1))))).mono ?_; rintro e wsy ⟨rfl, gs⟩; (try have b1 := b1.keep0 (gr_none (by first | exact gr_refl _ _ | exact gr_d _ | exact gr_d1) gs)); (try have t1 := t1.keep0 (gr_none (by first | exact gr_refl _ _ | exact gr_d _ | exact gr_d1) gs)); (try have b2 := b2.keep0 (gr_none (by first | exact gr_refl _ _ | exact gr_d _ | exact gr_d1) gs)); (try have t2 := t2.keep0 (gr_none (by first | exact gr_refl _ _ | exact gr_d _ | exact gr_d1) gs)); have GC : W.grownBy wsy none := gr_none (by first | exact GC | exact gr_none GC (gr_d _) | exact gr_none GC gr_d1 | exact gr_none GC (gr_drewN (gr_refl _ _) 1)) gs; obtain ⟨a0, a1, a2, a3, a4, a5⟩ := CELLS.out wsy GC; rw [← ESQ.out]) | (go_at_call 80; refine (fsign_at _ _).mono ?_; rintro e wsg ⟨rfl, rfl⟩))
      all_goals
        go_wp2
        go_ret
        refine ⟨?_, gr_none GW.out (by first | exact GC | exact gr_none GC (gr_d _) | exact gr_none GC gr_d1 | exact gr_none GC (gr_drewN (gr_refl _ _) 1))⟩
        rw [← HC.out]
        first | rfl | (show Ending.returned (Value.int .i64 (sgn (IntKind.i64.wrap (sp - sq)))) = _; rw [IntWalk.i64_in _ ⟨by omega, by omega⟩])
end Go.Proofs.YtgdiepfknfnmjaaGreatDoor

namespace Go.Proofs.YtgdiepfknfnmjaaGreatDoor
open Go.RowKit
set_option linter.unusedVariables false
set_option linter.unusedSimpArgs false

/-- Decimal, on its way: what comes of the rest is what comes of all. -/
def DecR (w : World) (d b most E : Nat) (T : List UInt8) (k : Nat) (rv ov : Value) (wr : World) : Prop :=
  ∃ (g r : Nat) (out : List UInt8), OwnN wr w.heap.size rv r b ∧ OwnM wr w.heap.size ov out ∧ (∀ j, blockOf rv = some j → blockOf ov ≠ some j) ∧ w.grownBy wr none ∧ r < d ∧ decGo d most g out r = (T, E) ∧ most ≤ out.length + g ∧ out.length ≤ 200000000 ∧ g = k

set_option maxHeartbeats 8000000 in
set_option maxRecDepth 10000 in
theorem decimal_at (x : Value) (q : Rat) (L most : Nat) (w : World) (hx : FQ w x q L) (hL : L ≤ 9000000) (hm : most ≤ 100000) (ht : Tab10 w) :
    Calls Tryz.prog 32 #[x, .int .i64 (most : Nat)] w fun e w' => e = .returned (.tuple #[.string ⟨(decAns (rN q) q.den most).1.toArray⟩, .bool (decAns (rN q) q.den most).2]) ∧ w.grownBy w' none := by
  obtain ⟨uo, ul, uc, do_, dl, dc, rfl⟩ := hx.shape
  have HX := hide hx
  have NX := hide hx.parts.1
  have HT := hide ht
  have hdp := q.den_pos
  obtain ⟨d, hd⟩ : ∃ d, d = q.den := ⟨_, rfl⟩
  obtain ⟨n, hn⟩ : ∃ n, n = rN q := ⟨_, rfl⟩
  rw [← hd] at hdp ⊢
  rw [← hn] at NX ⊢
  have HD := hide hd
  have HNN := hide hn
  obtain ⟨W, hW⟩ : ∃ W, W = w.alloc (Obj.cells #[.bool (rB q), .slice uo ul uc, .slice do_ dl dc] 45) := ⟨_, rfl⟩
  have GW : Hid (w.grownBy W none) := by rw [hW]; exact gr_alloc (gr_refl _ _) _
  have CELLS : Hid (∀ wx, W.grownBy wx none → wx.cell? ⟨w.heap.size, 0, none⟩ = some (.bool (rB q)) ∧ wx.cell? ⟨w.heap.size, 1, none⟩ = some (.slice uo ul uc) ∧ wx.cell? ⟨w.heap.size, 2, none⟩ = some (.slice do_ dl dc)) := by
    intro wx hg
    rw [hW] at hg
    exact box_three hg
  obtain ⟨s0, s1, s2⟩ := CELLS.out W (gr_refl _ _)
  clear hx ht hd hn
  go_enter Tryz.func32, Tryz.ntmps32
  go_wp2_with fail
  rw [← hW]
  refine (bar_at _ _ _ _ L W (HX.out.keep0 GW.out)).mono ?_
  rintro e wa ⟨bv, rfl, b1', b2'⟩
  rw [← HD.out] at b1'
  obtain ⟨bo, bl, bc, rfl, hbl, hbc1, hbc2⟩ := b1'.shape
  unfold maxLen at hbc2
  have BA := hide b1'
  have GA := hide b2'
  have HCO : Hid (Nat.gcd n d = 1) := by rw [HNN.out, HD.out]; exact q.reduced
  clear b1' b2' hbl s0 s1 s2 hW
  go_wp2_with fail
  refine (dividesTens_at _ d (L + 1) _ BA.out hdp (by omega)).mono ?_
  rintro e w2 ⟨bt, rfl, t1, t2⟩
  have B1 := hide (BA.out.keep0 t1)
  have B0 := hide (BA.out.keep0 t1)
  have G2 := hide (gr_none GW.out (gr_none GA.out t1))
  obtain ⟨a0, a1, a2⟩ := CELLS.out w2 (gr_none GA.out t1)
  have TT := hide t2
  clear t1 t2 BA GA
  by_cases hbt : bt = false
  · subst hbt
    have HA : Hid (decAns n d most = ([], false)) := by
      obtain ⟨k, g, e1, e2, e3, e4⟩ := TT.out rfl
      exact decAns_never n d most hdp (ends_never HCO.out hdp e1 e2 e3 e4)
    clear TT HCO
    go_wp2
    go_ret2
    rw [HA.out]
    exact ⟨rfl, G2.out⟩
  obtain rfl : bt = true := by simpa using hbt
  clear TT HCO hbt
  go_wp2_with fail
  refine (divide_own _ _ n d L (L + 1) _ (NX.out.keep0 G2.out) B1.out hdp (by omega)).mono ?_
  rintro e w3 ⟨wv, rv, rfl, d1, d2, d3, d4⟩
  obtain ⟨wo, wl, wc_, rfl, _, _, _⟩ := d1.shape
  obtain ⟨ro, rl, rc, rfl, hrl, hrc1, hrc2⟩ := d2.num.shape
  unfold maxLen at hrc2
  have D1 := hide d1
  have D2 := hide d2
  have G3 := hide d3
  have hs3 : w2.heap.size ≤ w3.heap.size := d3.size
  have hs2 : w.heap.size ≤ w2.heap.size := G2.out.size
  have T2 := hide (HT.out.keep0 G2.out)
  clear d1 d2 d3 d4 a0 a1 a2 B1
  go_wp2_with fail
  refine (text_at _ (n / d) L w3 D1.out (by omega) (T2.out.keep0 G3.out)).mono ?_
  rintro e w4 ⟨rfl, g4⟩
  obtain ⟨TX, hTX⟩ : ∃ t : ByteArray, t = ⟨(Lib.decDigits (n / d)).toArray⟩ := ⟨_, rfl⟩
  rw [← hTX]
  have hTXl : Hid (TX.data.toList = Lib.decDigits (n / d)) := by rw [hTX]; rfl
  have hTXs : TX.size ≤ 100000001 := by
    have h1 := dec_short (L := L) (by omega) (num_lt' D1.out)
    rw [hTX]
    exact h1
  obtain ⟨ov, w5, hcv, o1, o2⟩ := conv_own w4 TX (by omega)
  obtain ⟨og, oc, eov, hoc1, hoc2, hog1, hog2⟩ := o1.shape
  have hds : TX.data.toList.length = TX.size := by rw [Array.length_toList]; rfl
  rw [hds] at eov hoc1
  subst eov
  have O1 := hide o1
  have G4 := hide (gr_none G3.out g4)
  have G5 := hide (gr_none G4.out o2)
  have R5 := hide ((D2.out.keep0 g4).keep0 o2)
  have HDS := hide hds
  have RB : Hid (∀ j, blockOf (.slice ro rl rc) = some j → j < og) := by
    intro j hj
    have h1 := (D2.out.fresh j hj).2
    have h2 := g4.size
    omega
  clear hTX o1 o2 g4 hds D1 D2
  by_cases hr0 : n % d = 0
  · obtain rfl : rl = 0 := hrl.2 hr0
    clear hrl
    have hhead : decHead n d = TX.data.toList := by rw [decHead, if_pos hr0, List.append_nil, hTXl.out]
    have O6 : Hid (OwnM w5 w2.heap.size (.slice (some ⟨og, 0, none⟩) TX.size oc) (decHead n d)) := by
      rw [hhead]
      obtain ⟨g', c', cur, fz, z1, z2, z3⟩ := O1.out
      exact ⟨g', c', cur, fz, z1, Nat.le_trans G4.out.size z2, z3⟩
    have hhl : (decHead n d).length ≤ 200000000 := by rw [hhead, HDS.out]; omega
    have RB6 : Hid (∀ j, blockOf (.slice ro 0 rc) = some j → blockOf (.slice (some ⟨og, 0, none⟩) TX.size oc) ≠ some j) := by
      intro j hj h2
      have := RB.out j hj
      simp [blockOf] at h2
      omega
    have R6 : Hid (OwnN w5 w2.heap.size (.slice ro 0 rc) (n % d) (L + 1)) := R5.out.mono (by omega)
    have G6 := G5
    clear hhead O1 R5 G5 RB
    have hdlt : d < 4294967296 ^ (L + 1) := num_lt' B0.out
    have HDLT := hide hdlt
    clear hdlt
    obtain ⟨T, E, hTE⟩ : ∃ T E, decGo d most most (decHead n d) (n % d) = (T, E) := ⟨_, _, rfl⟩
    have HANS : Hid (decAns n d most = if E ≠ 0 ∨ most < T.length then ([], false) else (T, true)) := by
      show _ = _
      unfold decAns
      rw [hTE]
    have HTE := hide hTE
    clear hTE
    go_wp2
    go_loopg [8, 9] most (fun k rv ov wr => Hid (DecR w2 d (L + 1) most E T k rv ov wr))
    case atStart =>
      refine ⟨most, n % d, decHead n d, R6.out, O6.out, RB6.out, G6.out, Nat.mod_lt _ hdp, HTE.out, by omega, hhl, rfl⟩
    case round =>
      obtain ⟨k, r, out, r1, r2, r3, r4, r5, r6, r7, r8, rfl⟩ := hrel.out
      obtain ⟨ro2, rl2, rc2, rfl, hrl2, hrc3, hrc4⟩ := r1.num.shape
      unfold maxLen at hrc4
      obtain ⟨og2, oc2, rfl, hoc3, hoc4, hog3, hog4⟩ := r2.shape
      have R1 := hide r1
      have R2 := hide r2
      have R3 := hide r3
      have R4 := hide r4
      have R6' := hide r6
      clear r1 r2 r3 r4 r6 hrel
      by_cases hstop : r = 0 ∨ most ≤ out.length
      · have he := R6'.out
        rw [decGo_stop hstop] at he
        simp only [Prod.mk.injEq] at he
        obtain ⟨rfl, rfl⟩ := he
        have hlen : rl2 = 0 ↔ r = 0 := hrl2
        by_cases hr1 : r = 0
        · obtain rfl : rl2 = 0 := hrl2.2 hr1
          subst hr1
          clear hrl2 hlen hstop
          by_cases hlong : most < out.length
          · have HA : Hid (decAns n d most = ([], false)) := by have := HANS.out; rw [if_pos (.inr hlong)] at this; exact this
            clear HANS
            go_wp2
            go_ret2
            rw [HA.out]
            exact ⟨rfl, gr_none G2.out R4.out⟩
          · have HA : Hid (decAns n d most = (out, true)) := by have := HANS.out; rw [if_neg (by omega)] at this; exact this
            have hcv2 := R2.out.string
            clear HANS
            go_wp2
            go_ret2
            rw [HA.out]
            exact ⟨rfl, gr_none G2.out R4.out⟩
        · have hrl3 : 0 < rl2 := by
            rcases Nat.eq_zero_or_pos rl2 with e | e
            · exact absurd (hrl2.1 e) hr1
            · exact e
          have hml : most ≤ out.length := by
            rcases hstop with h | h
            · exact absurd h hr1
            · exact h
          have HA : Hid (decAns n d most = ([], false)) := by have := HANS.out; rw [if_pos (.inl hr1)] at this; exact this
          clear hrl2 hlen hstop HANS
          go_wp2
          go_ret2
          rw [HA.out]
          exact ⟨rfl, gr_none G2.out R4.out⟩
      · have hr1 : r ≠ 0 := fun e => hstop (.inl e)
        have hml : out.length < most := by
          rcases Nat.lt_or_ge out.length most with h | h
          · exact h
          · exact absurd (.inr h) hstop
        have hrl3 : 0 < rl2 := by
          rcases Nat.eq_zero_or_pos rl2 with e | e
          · exact absurd (hrl2.1 e) hr1
          · exact e
        obtain ⟨j, rfl⟩ : ∃ j, k = j + 1 := ⟨k - 1, by omega⟩
        have hgo := R6'.out
        rw [decGo, if_neg hstop] at hgo
        have HGO := hide hgo
        clear hrl2 hgo hstop R6'
        go_wp2_with fail
        refine (grow_num _ r 10 0 (L + 1) _ w2.heap.size R1.out (by omega) (by omega) (by omega) (by omega) R4.out.size).mono ?_
        rintro e w7 ⟨gv, rfl, g1, g2⟩
        rw [Nat.add_zero] at g1
        obtain ⟨go_, gl, gc, rfl⟩ := g1.shape
        have G1 := hide g1
        have O7 : Hid (OwnM w7 w2.heap.size (.slice (some ⟨og2, 0, none⟩) out.length oc2) out) := R2.out.keep g2 (fun j e => R3.out j e)
        have G7 := hide (gr_own2 R4.out g2 (fun b e => (R1.out.fresh b e).1))
        have B7 : Hid (Num w7 (.slice bo bl bc) d (L + 1)) := B0.out.keep0 G7.out
        clear g1 g2
        go_wp2_with fail
        refine (divide_own _ _ (r * 10) d (L + 2) (L + 1) _ G1.out.num B7.out hdp (by omega)).mono ?_
        rintro e w8 ⟨dv, rv3, rfl, e1, e2, e3, e4⟩
        obtain ⟨dgo, dgl, dgc, rfl, _, _, _⟩ := e1.shape
        obtain ⟨ro3, rl3, rc3, rfl⟩ := e2.shape
        have E1 := hide e1
        have E2 := hide e2
        have E3 := hide e3
        have hog8 : og2 < w7.heap.size := by
          obtain ⟨g', c', ee, _, _, _, h9⟩ := O7.out.shape
          simp only [Value.slice.injEq, Option.some.injEq, Addr.mk.injEq, and_true, true_and] at ee
          omega
        clear e1 e2 e3 e4
        go_wp2_with fail
        refine (text_at _ (r * 10 / d) (L + 2) w8 E1.out (by omega) (T2.out.keep0 (gr_none G7.out E3.out))).mono ?_
        rintro e w9 ⟨rfl, g9⟩
        obtain ⟨DG, hDG⟩ : ∃ t : ByteArray, t = ⟨(Lib.decDigits (r * 10 / d)).toArray⟩ := ⟨_, rfl⟩
        rw [← hDG]
        have hDGl : Hid (DG.data.toList = Lib.decDigits (r * 10 / d)) := by rw [hDG]; rfl
        have hDGs : DG.size ≤ 100000001 := by
          have h1 := dec_short (L := L + 2) (by omega) (num_lt' E1.out)
          rw [hDG]
          exact h1
        have hDGp : Hid (1 ≤ DG.size) := by
          have h1 := Lib.nDigits_pos (r * 10 / d)
          rw [← Lib.decDigits_length] at h1
          rw [hDG]
          exact h1
        have O9 := hide ((O7.out.keep0 E3.out).keep0 g9)
        have E9 := hide (E2.out.keep0 g9)
        have G9 := hide (gr_none (gr_none G7.out E3.out) g9)
        have hs9 : w8.heap.size ≤ w9.heap.size := g9.size
        have hs8 : w7.heap.size ≤ w8.heap.size := E3.out.size
        clear g9 hDG
        go_wp2_with (at_builtin; refine wpList_app_str _ rfl _ _ rfl w2.heap.size _ out DG rfl rfl O9.out (by omega) G9.out.size ?_)
        intro ov3 w10 p1 p2 p3
        obtain ⟨og3, oc3, rfl, _, _, _, _⟩ := p1.shape
        have P1 := hide p1
        have P2 := hide p2
        have P3 := hide p3
        clear p1 p2 p3
        go_wp2
        go_roundg j
        case measure => omega
        case rel =>
          have hrd : r * 10 % d < d := Nat.mod_lt _ hdp
          refine ⟨j, r * 10 % d, out ++ DG.data.toList, ?_, P1.out, ?_, ?_, hrd, ?_, ?_, ?_, rfl⟩
          · have h1 := (E9.out.base (show w2.heap.size ≤ w7.heap.size from G7.out.size)).tight (L' := L + 1) (Nat.lt_trans hrd HDLT.out)
            obtain ⟨xs, x1, x2⟩ := h1
            refine ⟨xs, x1.keep P2.out ?_, x2⟩
            intro b e h2
            have h3 := (E2.out.fresh b h2).1
            simp [blockOf] at e
            omega
          · intro b h2 h3
            have h4 := (E2.out.fresh b h2).1
            have h5 := (E2.out.fresh b h2).2
            rcases P3.out b h3 with h6 | h6
            · simp [blockOf] at h6
              omega
            · omega
          · exact gr_own2 G9.out P2.out (fun b e => by simp [blockOf] at e; omega)
          · rw [hDGl.out]; exact HGO.out
          · rw [List.length_append]
            have := hDGp.out
            have h9 : DG.data.toList.length = DG.size := by rw [Array.length_toList]; rfl
            omega
          · rw [List.length_append]
            have h9 : DG.data.toList.length = DG.size := by rw [Array.length_toList]; rfl
            omega
  · have hrl0 : 0 < rl := by
      rcases Nat.eq_zero_or_pos rl with e | e
      · exact absurd (hrl.1 e) hr0
      · exact e
    clear hrl
    have hcell : (w5.alloc (Obj.cells #[Value.int IntKind.u8 46] 5)).cell? ⟨w5.heap.size, 0, none⟩ = some (.int .u8 46) := by simp
    have ho0 : OwnM w5 w2.heap.size (.slice (some ⟨og, 0, none⟩) TX.size oc) TX.data.toList := by
      obtain ⟨g', c', cur, fz, z1, z2, z3⟩ := O1.out
      exact ⟨g', c', cur, fz, by rw [z1], Nat.le_trans G4.out.size z2, z3⟩
    have hown := ho0.keep0 (gr_alloc (gr_refl w5 none) (Obj.cells #[Value.int IntKind.u8 46] 5))
    have hbs : w2.heap.size ≤ (w5.alloc (Obj.cells #[Value.int IntKind.u8 46] 5)).heap.size := by have := G5.out.size; simp; omega
    have HC := hide hcell
    have HO := hide hown
    have HBS := hide hbs
    clear hcell hown hbs ho0
    go_wp2_with (at_builtin; refine wpList_app_byte _ rfl _ _ rfl w2.heap.size _ TX.data.toList rfl w5.heap.size _ 46 rfl rfl HC.out HO.out (by rw [HDS.out]; omega) HBS.out ?_)
    intro ov6 w6 p1 p2 p3
    obtain ⟨og6, oc6, rfl, hoc7, hoc8, _, _⟩ := p1.shape
    have hhead : decHead n d = TX.data.toList ++ [46] := by rw [decHead, if_neg hr0, hTXl.out]
    have hlen6 : (TX.data.toList ++ [46]).length = TX.size + 1 := by rw [List.length_append, HDS.out]; rfl
    rw [hlen6] at p1 hoc7
    rw [hlen6]
    have O6 : Hid (OwnM w6 w2.heap.size (.slice (some ⟨og6, 0, none⟩) (TX.size + 1) oc6) (decHead n d)) := by rw [hhead]; exact p1
    have hhl : (decHead n d).length ≤ 200000000 := by rw [hhead, hlen6]; omega
    have G6 : Hid (w2.grownBy w6 none) := gr_own2 (gr_none G5.out (gr_alloc (gr_refl _ _) _)) p2 (fun b e => by simp [blockOf] at e; have := G4.out.size; omega)
    have RB6 : Hid (∀ j, blockOf (.slice ro rl rc) = some j → blockOf (.slice (some ⟨og6, 0, none⟩) (TX.size + 1) oc6) ≠ some j) := by
      intro j hj h2
      have h3 := RB.out j hj
      have h5 := (R5.out.fresh j hj).2
      rcases p3 j (by rw [hlen6]; exact h2) with h4 | h4
      · simp [blockOf] at h4
        omega
      · have h7 := (gr_alloc (gr_refl w5 none) (Obj.cells #[Value.int IntKind.u8 46] 5)).size
        omega
    have R6 : Hid (OwnN w6 w2.heap.size (.slice ro rl rc) (n % d) (L + 1)) := by
      obtain ⟨xs, x1, x2⟩ := (R5.out.mono (show L ≤ L + 1 by omega)).keep0 (gr_alloc (gr_refl w5 none) (Obj.cells #[Value.int IntKind.u8 46] 5))
      refine ⟨xs, x1.keep p2 ?_, x2⟩
      intro b e h2
      have h3 := RB.out b h2
      simp [blockOf] at e
      omega
    clear hhead hlen6 p1 p2 p3 O1 R5 G5 RB HC HO HBS hcv
    have hdlt : d < 4294967296 ^ (L + 1) := num_lt' B0.out
    have HDLT := hide hdlt
    clear hdlt
    obtain ⟨T, E, hTE⟩ : ∃ T E, decGo d most most (decHead n d) (n % d) = (T, E) := ⟨_, _, rfl⟩
    have HANS : Hid (decAns n d most = if E ≠ 0 ∨ most < T.length then ([], false) else (T, true)) := by
      show _ = _
      unfold decAns
      rw [hTE]
    have HTE := hide hTE
    clear hTE
    go_wp2
    go_loopg [8, 9] most (fun k rv ov wr => Hid (DecR w2 d (L + 1) most E T k rv ov wr))
    case atStart =>
      refine ⟨most, n % d, decHead n d, R6.out, O6.out, RB6.out, G6.out, Nat.mod_lt _ hdp, HTE.out, by omega, hhl, rfl⟩
    case round =>
      obtain ⟨k, r, out, r1, r2, r3, r4, r5, r6, r7, r8, rfl⟩ := hrel.out
      obtain ⟨ro2, rl2, rc2, rfl, hrl2, hrc3, hrc4⟩ := r1.num.shape
      unfold maxLen at hrc4
      obtain ⟨og2, oc2, rfl, hoc3, hoc4, hog3, hog4⟩ := r2.shape
      have R1 := hide r1
      have R2 := hide r2
      have R3 := hide r3
      have R4 := hide r4
      have R6' := hide r6
      clear r1 r2 r3 r4 r6 hrel
      by_cases hstop : r = 0 ∨ most ≤ out.length
      · have he := R6'.out
        rw [decGo_stop hstop] at he
        simp only [Prod.mk.injEq] at he
        obtain ⟨rfl, rfl⟩ := he
        have hlen : rl2 = 0 ↔ r = 0 := hrl2
        by_cases hr1 : r = 0
        · obtain rfl : rl2 = 0 := hrl2.2 hr1
          subst hr1
          clear hrl2 hlen hstop
          by_cases hlong : most < out.length
          · have HA : Hid (decAns n d most = ([], false)) := by have := HANS.out; rw [if_pos (.inr hlong)] at this; exact this
            clear HANS
            go_wp2
            go_ret2
            rw [HA.out]
            exact ⟨rfl, gr_none G2.out R4.out⟩
          · have HA : Hid (decAns n d most = (out, true)) := by have := HANS.out; rw [if_neg (by omega)] at this; exact this
            have hcv2 := R2.out.string
            clear HANS
            go_wp2
            go_ret2
            rw [HA.out]
            exact ⟨rfl, gr_none G2.out R4.out⟩
        · have hrl3 : 0 < rl2 := by
            rcases Nat.eq_zero_or_pos rl2 with e | e
            · exact absurd (hrl2.1 e) hr1
            · exact e
          have hml : most ≤ out.length := by
            rcases hstop with h | h
            · exact absurd h hr1
            · exact h
          have HA : Hid (decAns n d most = ([], false)) := by have := HANS.out; rw [if_pos (.inl hr1)] at this; exact this
          clear hrl2 hlen hstop HANS
          go_wp2
          go_ret2
          rw [HA.out]
          exact ⟨rfl, gr_none G2.out R4.out⟩
      · have hr1 : r ≠ 0 := fun e => hstop (.inl e)
        have hml : out.length < most := by
          rcases Nat.lt_or_ge out.length most with h | h
          · exact h
          · exact absurd (.inr h) hstop
        have hrl3 : 0 < rl2 := by
          rcases Nat.eq_zero_or_pos rl2 with e | e
          · exact absurd (hrl2.1 e) hr1
          · exact e
        obtain ⟨j, rfl⟩ : ∃ j, k = j + 1 := ⟨k - 1, by omega⟩
        have hgo := R6'.out
        rw [decGo, if_neg hstop] at hgo
        have HGO := hide hgo
        clear hrl2 hgo hstop R6'
        go_wp2_with fail
        refine (grow_num _ r 10 0 (L + 1) _ w2.heap.size R1.out (by omega) (by omega) (by omega) (by omega) R4.out.size).mono ?_
        rintro e w7 ⟨gv, rfl, g1, g2⟩
        rw [Nat.add_zero] at g1
        obtain ⟨go_, gl, gc, rfl⟩ := g1.shape
        have G1 := hide g1
        have O7 : Hid (OwnM w7 w2.heap.size (.slice (some ⟨og2, 0, none⟩) out.length oc2) out) := R2.out.keep g2 (fun j e => R3.out j e)
        have G7 := hide (gr_own2 R4.out g2 (fun b e => (R1.out.fresh b e).1))
        have B7 : Hid (Num w7 (.slice bo bl bc) d (L + 1)) := B0.out.keep0 G7.out
        clear g1 g2
        go_wp2_with fail
        refine (divide_own _ _ (r * 10) d (L + 2) (L + 1) _ G1.out.num B7.out hdp (by omega)).mono ?_
        rintro e w8 ⟨dv, rv3, rfl, e1, e2, e3, e4⟩
        obtain ⟨dgo, dgl, dgc, rfl, _, _, _⟩ := e1.shape
        obtain ⟨ro3, rl3, rc3, rfl⟩ := e2.shape
        have E1 := hide e1
        have E2 := hide e2
        have E3 := hide e3
        have hog8 : og2 < w7.heap.size := by
          obtain ⟨g', c', ee, _, _, _, h9⟩ := O7.out.shape
          simp only [Value.slice.injEq, Option.some.injEq, Addr.mk.injEq, and_true, true_and] at ee
          omega
        clear e1 e2 e3 e4
        go_wp2_with fail
        refine (text_at _ (r * 10 / d) (L + 2) w8 E1.out (by omega) (T2.out.keep0 (gr_none G7.out E3.out))).mono ?_
        rintro e w9 ⟨rfl, g9⟩
        obtain ⟨DG, hDG⟩ : ∃ t : ByteArray, t = ⟨(Lib.decDigits (r * 10 / d)).toArray⟩ := ⟨_, rfl⟩
        rw [← hDG]
        have hDGl : Hid (DG.data.toList = Lib.decDigits (r * 10 / d)) := by rw [hDG]; rfl
        have hDGs : DG.size ≤ 100000001 := by
          have h1 := dec_short (L := L + 2) (by omega) (num_lt' E1.out)
          rw [hDG]
          exact h1
        have hDGp : Hid (1 ≤ DG.size) := by
          have h1 := Lib.nDigits_pos (r * 10 / d)
          rw [← Lib.decDigits_length] at h1
          rw [hDG]
          exact h1
        have O9 := hide ((O7.out.keep0 E3.out).keep0 g9)
        have E9 := hide (E2.out.keep0 g9)
        have G9 := hide (gr_none (gr_none G7.out E3.out) g9)
        have hs9 : w8.heap.size ≤ w9.heap.size := g9.size
        have hs8 : w7.heap.size ≤ w8.heap.size := E3.out.size
        clear g9 hDG
        go_wp2_with (at_builtin; refine wpList_app_str _ rfl _ _ rfl w2.heap.size _ out DG rfl rfl O9.out (by omega) G9.out.size ?_)
        intro ov3 w10 p1 p2 p3
        obtain ⟨og3, oc3, rfl, _, _, _, _⟩ := p1.shape
        have P1 := hide p1
        have P2 := hide p2
        have P3 := hide p3
        clear p1 p2 p3
        go_wp2
        go_roundg j
        case measure => omega
        case rel =>
          have hrd : r * 10 % d < d := Nat.mod_lt _ hdp
          refine ⟨j, r * 10 % d, out ++ DG.data.toList, ?_, P1.out, ?_, ?_, hrd, ?_, ?_, ?_, rfl⟩
          · have h1 := (E9.out.base (show w2.heap.size ≤ w7.heap.size from G7.out.size)).tight (L' := L + 1) (Nat.lt_trans hrd HDLT.out)
            obtain ⟨xs, x1, x2⟩ := h1
            refine ⟨xs, x1.keep P2.out ?_, x2⟩
            intro b e h2
            have h3 := (E2.out.fresh b h2).1
            simp [blockOf] at e
            omega
          · intro b h2 h3
            have h4 := (E2.out.fresh b h2).1
            have h5 := (E2.out.fresh b h2).2
            rcases P3.out b h3 with h6 | h6
            · simp [blockOf] at h6
              omega
            · omega
          · exact gr_own2 G9.out P2.out (fun b e => by simp [blockOf] at e; omega)
          · rw [hDGl.out]; exact HGO.out
          · rw [List.length_append]
            have := hDGp.out
            have h9 : DG.data.toList.length = DG.size := by rw [Array.length_toList]; rfl
            omega
          · rw [List.length_append]
            have h9 : DG.data.toList.length = DG.size := by rw [Array.length_toList]; rfl
            omega
end Go.Proofs.YtgdiepfknfnmjaaGreatDoor
