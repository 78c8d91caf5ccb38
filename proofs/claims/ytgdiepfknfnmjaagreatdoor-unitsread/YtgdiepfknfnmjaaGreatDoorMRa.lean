/- The reference's Int.Text, at base 10. -/
import Derived.Test.YtgdiepfknfnmjaaGreatDoorMBe
import Derived.Test.YtgdiepfknfnmjaaGreatDoorMU1
import Derived.Test.YtgdiepfknfnmjaaGreatDoorMBase
import Derived.Test.YtgdiepfknfnmjaaGreatDoorRSet
namespace Go.Proofs.YtgdiepfknfnmjaaGreatDoor
open Go.RowKit
set_option linter.unusedVariables false

/-- A whole number's text. -/
def itext (z : Int) : List UInt8 := if z < 0 then 45 :: Lib.decDigits z.natAbs else Lib.decDigits z.natAbs

/-- A digit's byte. -/
def dgB (r : Nat) : UInt8 := UInt8.ofNat (48 + r)

theorem byte_of (r : Nat) (h : r < 10) : (48 + (r : Int)) = ((dgB r).toNat : Int) := by
  unfold dgB
  rw [UInt8.toNat_ofNat']
  omega

/-- The digits so far, the last ones first, and what is left. -/
def DigR (n m : Nat) (acc : List UInt8) : Prop := (m ≠ 0 → Lib.decDigits n = Lib.decDigits m ++ acc.reverse) ∧ (m = 0 → Lib.decDigits n = acc.reverse)

theorem DigR.step {n m : Nat} {acc : List UInt8} (h : DigR n m acc) (hm : m ≠ 0) : DigR n (m / 10) (acc ++ [dgB (m % 10)]) := by
  have h1 := h.1 hm
  unfold DigR dgB
  rw [List.reverse_append, List.reverse_singleton]
  refine ⟨fun h2 => ?_, fun h2 => ?_⟩
  · rw [h1, dec_step (by omega), List.append_assoc]
  · have h3 : m < 10 := by omega
    rw [h1, Lib.decDigits_one h3, Nat.mod_eq_of_lt h3]

theorem itext_pos (z : Int) : 0 < (itext z).length := by
  have := Lib.nDigits_pos z.natAbs
  rw [← Lib.decDigits_length] at this
  unfold itext
  split
  · simp
  · omega

/-- Text's second loop. -/
def SwpR (w : World) (g c : Nat) (l : List UInt8) (i : Nat) (wr : World) : Prop := OwnB wr w.heap.size (.slice (some ⟨g, 0, none⟩) l.length c) (swp l i) ∧ w.grownBy wr none

theorem OwnB.swap {w : World} {base g c i j : Nat} {l : List UInt8} (h : OwnB w base (.slice (some ⟨g, 0, none⟩) l.length c) (swp l i)) (hi : i + i + 1 < l.length) (hj : j = l.length - 1 - i) :
    ∃ x y : UInt8, w.cell? ⟨g, i, none⟩ = some (.int .u8 (x.toNat : Nat)) ∧ w.cell? ⟨g, j, none⟩ = some (.int .u8 (y.toNat : Nat)) ∧ w.frozen? ⟨g, i, none⟩ = false ∧ w.frozen? ⟨g, j, none⟩ = false ∧
      OwnB ((w.setCell ⟨g, i, none⟩ (.int .u8 (y.toNat : Nat))).setCell ⟨g, j, none⟩ (.int .u8 (x.toNat : Nat))) base (.slice (some ⟨g, 0, none⟩) l.length c) (swp l (i + 1)) := by
  have hi2 : i < (swp l i).length := by rw [swp_length]; omega
  have hj2 : j < (swp l i).length := by rw [swp_length]; omega
  rw [← swp_length l i] at h
  obtain ⟨a1, a2, a3⟩ := h.at i hi2
  obtain ⟨b1, b2, b3⟩ := h.at j hj2
  have ex : (swp l i)[i] = l.getD i 0 := by rw [swp_get, if_neg (by omega)]
  have ey : (swp l i)[j] = l.getD j 0 := by rw [swp_get, if_neg (by omega)]
  refine ⟨(swp l i)[i], (swp l i)[j], a1, b1, a2, b2, ?_⟩
  have h2 := a3 (swp l i)[j] _ rfl
  rw [show (swp l i).length = ((swp l i).set i (swp l i)[j]).length from by simp] at h2
  obtain ⟨_, _, c3⟩ := h2.at j (by simpa using hj2)
  have h3 := c3 (swp l i)[i] _ rfl
  rw [show ((swp l i).set i (swp l i)[j]).length = l.length from by simp [swp_length]] at h3
  have e := swp_step l i hi
  rw [← hj] at e
  rw [ey, ex] at h3 ⊢
  rw [e] at h3
  exact h3

/-- Text's first loop. -/
def TxtR (w : World) (n L : Nat) (k : Nat) (bv av : Value) (wr : World) : Prop :=
  ∃ (m : Nat) (acc : List UInt8), OwnB wr w.heap.size bv acc ∧ Num wr av m L ∧ DigR n m acc ∧ w.grownBy wr none ∧ m = k

theorem DigR.len {n m : Nat} {acc : List UInt8} (h : DigR n m acc) : acc.length ≤ Lib.nDigits n := by
  rw [← Lib.decDigits_length]
  by_cases hm : m = 0
  · rw [h.2 hm]; simp
  · rw [h.1 hm]; simp

theorem digits_le {n L : Nat} (hL : 0 < L) (h : n < 4294967296 ^ L) : Lib.nDigits n ≤ 10 * L := by
  refine nDigits_le (by omega) (Nat.lt_of_lt_of_le h ?_)
  rw [Nat.pow_mul]
  exact Nat.pow_le_pow_left (by decide) L

theorem num_lt {w : World} {v : Value} {n L : Nat} (h : Num w v n L) : n < 4294967296 ^ L := by
  obtain ⟨xs, h1, h2, h3, h4⟩ := h
  have := val_lt h1.sm
  rw [h3] at this
  exact Nat.lt_of_lt_of_le this (Nat.pow_le_pow_right (by decide) h4)

set_option maxHeartbeats 2000000 in
set_option maxRecDepth 10000 in
theorem intText_at (bx ox : Nat) (z : Int) (L : Nat) (w : World) (h : IntAt w bx ox z L) (hL : L ≤ 50000000) :
    Calls Tryz.prog 88 #[.pointer (some ⟨bx, ox, none⟩), .int .i64 10] w fun e w' => e = .returned (.string ⟨(itext z).toArray⟩) ∧ w.grownBy w' none := by
  obtain ⟨neg, v, h1, h2, h3, h4⟩ := h
  obtain ⟨ao, l, ca, rfl, hl, _, hc1, hc2, _, _⟩ := num_zero h2
  have c0 := h1.c0
  have c1 := h1.c1
  have hnil : ∀ W, (binOp .eql 53 (.pointer (some ⟨bx, ox, none⟩)) (.pointer none)).run Tryz.prog W = .ok (.bool false) W := fun W => by kernel_rfl
  by_cases hz : z = 0
  · have hl0 : l = 0 := hl.2 (by omega)
    subst hl0 hz
    clear hl h1 h2 h3 h4
    go_enter Tryz.func88, Tryz.ntmps88
    go_wp2
    go_ret
    refine ⟨?_, gr_refl _ _⟩
    rw [show itext 0 = [48] from by simp [itext, Lib.decDigits_one]]
    rfl
  · have hl0 : 0 < l := by
      rcases Nat.eq_zero_or_pos l with e | e
      · have := hl.1 e; omega
      · exact e
    have hl1 : ((l : Int) == 0) = false := by simp; omega
    obtain ⟨n, hn⟩ : ∃ n, n = z.natAbs := ⟨_, rfl⟩
    have hn0 : 0 < n := by omega
    rw [← hn] at h2
    have HB := hide h1
    have HN := hide h2
    have H3 := hide h3
    have HNZ := hide hn
    clear hl h1 h2 h3 h4 hn
    go_enter Tryz.func88, Tryz.ntmps88
    go_wp2_with fail
    refine (twin_num _ n L _ HN.out (by omega)).mono ?_
    rintro e w1 ⟨av, rfl, a1, a2, a3⟩
    obtain ⟨ao1, l1, ca1, rfl, hll, _, hcc1, hcc2, _, _⟩ := num_zero a1
    have A1 := hide a1
    have A2 := hide a2
    have hnd : Lib.nDigits n ≤ 10 * L := by
      have hlt := num_lt a1
      refine digits_le ?_ hlt
      rcases Nat.eq_zero_or_pos L with e | e
      · subst e; simp at hlt; omega
      · exact e
    clear a1 a2 a3 hll c0 c1
    go_wp2
    go_loopg [5, 6] n (fun k bv av wr => Hid (TxtR w n L k bv av wr))
    case atStart => exact ⟨n, [], OwnB.nil _ _, A1.out, ⟨fun _ => by simp, fun e => by omega⟩, A2.out, rfl⟩
    case round =>
      obtain ⟨k, acc, r1, r2, r3, r4, rfl⟩ := hrel.out
      have hacc := r3.len
      obtain ⟨bo, bc, rfl, hbc1, hbc2⟩ := r1.shape
      obtain ⟨ao2, l2, ca2, rfl, hl2, _, hd1, hd2, _, _⟩ := num_zero r2
      have R1 := hide r1
      have R2 := hide r2
      have R3 := hide r3
      have R4 := hide r4
      clear r1 r2 r3 r4 hrel
      by_cases hk : k = 0
      · obtain rfl : l2 = 0 := hl2.2 hk
        subst hk
        have HD := hide (R3.out.2 rfl)
        clear hl2
        have cb0 := HB.out.keep0 R4.out
        have c0 := cb0.c0
        clear cb0
        by_cases hneg : neg = true
        · subst hneg
          have hown := R1.out.alloc (Obj.cells #[Value.int IntKind.u8 45] 5)
          have hcell : (wr.alloc (Obj.cells #[Value.int IntKind.u8 45] 5)).cell? ⟨wr.heap.size, 0, none⟩ = some (.int .u8 45) := by simp
          have HC := hide hcell
          have HO := hide hown
          have hbs : w.heap.size ≤ (wr.alloc (Obj.cells #[Value.int IntKind.u8 45] 5)).heap.size := by have := R4.out.size; simp; omega
          have HBS := hide hbs
          clear hcell hown hbs
          go_wp2_with (at_builtin; refine wpList_append_byte _ rfl _ _ rfl w.heap.size _ acc rfl wr.heap.size _ 45 rfl rfl HC.out HO.out (by omega) HBS.out ?_)
          intro bv' w3 o1 o2
          have O1 := hide o1
          have G3 := hide (gr_own (gr_none R4.out (gr_alloc (gr_refl _ _) _)) o2 (fun b e => (R1.out.fresh b e).1))
          clear o1 o2
          obtain ⟨l0, hl0⟩ : ∃ l0, l0 = (acc ++ [45]) := ⟨_, rfl⟩
          have HSW : Hid (l0.reverse = itext z) := by
            show _ = _
            rw [hl0]
            rw [List.reverse_append, ← HD.out, HNZ.out]
            have hzn : z < 0 := by simpa using H3.out.symm
            simp [itext, hzn]
          have hal : 0 < l0.length := by
            have h1 := congrArg List.length HSW.out
            rw [List.length_reverse] at h1
            have h2 := itext_pos z
            omega
          have hlb : l0.length ≤ 10 * L + 1 := by rw [hl0]; simp; omega
          rw [← hl0] at O1
          clear hl0
          obtain ⟨gb, cb, rfl, hcb1, hcb2, hgb1, hgb2⟩ := O1.out.open hal
          go_wp2
          go_loopw [8, 9] (fun iv jv w5 => ∃ i : Nat, i + i ≤ l0.length + 1 ∧ iv = .int .i64 (i : Int) ∧ jv = .int .i64 ((l0.length : Int) - 1 - i) ∧ Hid (SwpR w gb cb l0 i w5)) (fun iv _ _ => l0.length - (intOf iv).toNat)
          case atStart => exact ⟨0, by omega, rfl, by go_num, by rw [SwpR, swp_zero]; exact ⟨O1.out, G3.out⟩⟩
          case round =>
            obtain ⟨i, hi, rfl, rfl, HI⟩ := hrel
            by_cases hlt : i + i + 1 < l0.length
            · obtain ⟨j, hj⟩ : ∃ j, j = l0.length - 1 - i := ⟨_, rfl⟩
              have hje : ((l0.length : Int) - 1 - i) = (j : Int) := by omega
              obtain ⟨x, y, x1, y1, x2, y2, st⟩ := HI.out.1.swap hlt hj
              have ST := hide st
              have G5 := hide HI.out.2
              have HJ := hide hj
              have hj1 : i < j := by omega
              have hj2 : j < l0.length := by omega
              have hj3 : i < l0.length := by omega
              rw [hje]
              clear st hj hje HI O1
              go_wp2
              go_roundw
              case rel =>
                have hj := HJ.out
                exact ⟨i + 1, by omega, by go_num, by go_num, ST.out, gr_set (gr_set G5.out _ _ (by simp; omega)) _ _ (by simp; omega)⟩
              case measure => simp [intOf]; omega
            · have hcv := HI.out.1.string (by rw [swp_length]; exact hal)
              rw [swp_end l0 i (by omega), HSW.out] at hcv
              have G5 := hide HI.out.2
              clear HI O1
              go_wp2
              go_ret
              exact ⟨rfl, G5.out⟩
        · obtain rfl : neg = false := by simpa using hneg
          clear hneg
          have O1 := hide R1.out
          have G3 := hide R4.out
          have HSW : Hid (acc.reverse = itext z) := by
            show _ = _
            rw [← HD.out, HNZ.out]
            have hzn : ¬ z < 0 := by simpa using H3.out.symm
            simp [itext, hzn]
          have hal : 0 < acc.length := by
            have h1 := congrArg List.length HSW.out
            rw [List.length_reverse] at h1
            have h2 := itext_pos z
            omega
          have hlb : acc.length ≤ 10 * L + 1 := by omega
          obtain ⟨gb, cb, eb, hcb1, hcb2, hgb1, hgb2⟩ := O1.out.open hal
          simp only [Value.slice.injEq, true_and] at eb
          obtain ⟨rfl, rfl⟩ := eb
          have hcbc : bc = bc := rfl
          go_wp2
          go_loopw [8, 9] (fun iv jv w5 => ∃ i : Nat, i + i ≤ acc.length + 1 ∧ iv = .int .i64 (i : Int) ∧ jv = .int .i64 ((acc.length : Int) - 1 - i) ∧ Hid (SwpR w gb bc acc i w5)) (fun iv _ _ => acc.length - (intOf iv).toNat)
          case atStart => exact ⟨0, by omega, rfl, by go_num, by rw [SwpR, swp_zero]; exact ⟨O1.out, G3.out⟩⟩
          case round =>
            obtain ⟨i, hi, rfl, rfl, HI⟩ := hrel
            by_cases hlt : i + i + 1 < acc.length
            · obtain ⟨j, hj⟩ : ∃ j, j = acc.length - 1 - i := ⟨_, rfl⟩
              have hje : ((acc.length : Int) - 1 - i) = (j : Int) := by omega
              obtain ⟨x, y, x1, y1, x2, y2, st⟩ := HI.out.1.swap hlt hj
              have ST := hide st
              have G5 := hide HI.out.2
              have HJ := hide hj
              have hj1 : i < j := by omega
              have hj2 : j < acc.length := by omega
              have hj3 : i < acc.length := by omega
              rw [hje]
              clear st hj hje HI O1
              go_wp2
              go_roundw
              case rel =>
                have hj := HJ.out
                exact ⟨i + 1, by omega, by go_num, by go_num, ST.out, gr_set (gr_set G5.out _ _ (by simp; omega)) _ _ (by simp; omega)⟩
              case measure => simp [intOf]; omega
            · have hcv := HI.out.1.string (by rw [swp_length]; exact hal)
              rw [swp_end acc i (by omega), HSW.out] at hcv
              have G5 := hide HI.out.2
              clear HI O1
              go_wp2
              go_ret
              exact ⟨rfl, G5.out⟩
      · have hl3 : 0 < l2 := by
          rcases Nat.eq_zero_or_pos l2 with e | e
          · exact absurd (hl2.1 e) hk
          · exact e
        clear hl2
        go_wp2_with fail
        refine (small_num _ k L 10 _ R2.out (by omega) (by omega) (by omega)).mono ?_
        rintro e w2 ⟨v', r, rfl, hr, s1, s2, s3⟩
        obtain ⟨ao3, l3, ca3, rfl, hl4, _, he1, he2, _, _⟩ := num_zero s1
        have hr10 : r < 10 := by omega
        have HR := hide hr
        have S1 := hide s1
        have S2 := hide s2
        have S3 := hide s3
        clear hr s1 s2 s3 hl4
        have hri : (r : Int) < 10 := by omega
        have hu8 : (48 + (r : Int)) = ((dgB r).toNat : Int) := byte_of r hr10
        have hcell : (w2.alloc (Obj.cells #[Value.int IntKind.u8 (48 + (r : Int))] 5)).cell? ⟨w2.heap.size, 0, none⟩ = some (.int .u8 (48 + (r : Int))) := by simp
        have hown := (R1.out.keep0 S2.out).alloc (Obj.cells #[Value.int IntKind.u8 (48 + (r : Int))] 5)
        have hbs : w.heap.size ≤ (w2.alloc (Obj.cells #[Value.int IntKind.u8 (48 + (r : Int))] 5)).heap.size := by have := R4.out.size; have := S2.out.size; simp; omega
        have HU := hide hu8
        have HC := hide hcell
        have HO := hide hown
        have HBS := hide hbs
        clear hu8 hcell hown hbs
        go_wp2_with (at_builtin; refine wpList_append_byte _ rfl _ _ rfl w.heap.size _ acc rfl w2.heap.size _ (dgB r) HU.out rfl HC.out HO.out (by omega) HBS.out ?_)
        intro bv' w3 o1 o2
        obtain ⟨bo3, bc3, rfl, _, _⟩ := o1.shape
        have O1 := hide o1
        have O2 := hide o2
        clear o1 o2
        go_wp2
        go_roundg (k / 10)
        case measure => omega
        case rel =>
          refine ⟨k / 10, _, O1.out, ?_, ?_, ?_, rfl⟩
          · refine (S1.out.keep0 (gr_alloc (gr_refl _ _) _)).keep O2.out ?_
            intro j e h2
            have h3 := S3.out j h2
            have h4 := (R1.out.fresh j e).2
            omega
          · rw [HR.out]
            exact R3.out.step hk
          · exact gr_own (gr_none R4.out (gr_none S2.out (gr_alloc (gr_refl _ _) _))) O2.out (fun b e => (R1.out.fresh b e).1)
end Go.Proofs.YtgdiepfknfnmjaaGreatDoor

namespace Go.Proofs.YtgdiepfknfnmjaaGreatDoor
open Go.RowKit
set_option linter.unusedVariables false
set_option linter.unusedSimpArgs false

theorem low_mk (x : Int) (y : Nat) (hy : 0 < y) : low1 x y = (mkRat x y).num ∧ low2 x y = (mkRat x y).den := by
  rw [Rat.num_mkRat, Rat.den_mkRat, if_neg (by omega), if_neg (by omega)]
  unfold low1 low2
  rw [Nat.gcd_comm y x.natAbs]
  exact ⟨rfl, rfl⟩

/-- The number q lies in block b. -/
def RQ (w : World) (b : Nat) (q : Rat) (L : Nat) : Prop := RatAt w b q.num q.den L

theorem RQ.keep0 {w w' : World} {b L : Nat} {q : Rat} (h : RQ w b q L) (hg : w.grownBy w' none) : RQ w' b q L := RatAt.keep0 h hg
theorem RQ.mono {w : World} {b L L' : Nat} {q : Rat} (h : RQ w b q L) (hl : L ≤ L') : RQ w b q L' := RatAt.mono h hl

/-- What a call answers that answers such a number, in new memory. -/
def RQE (w : World) (q : Rat) (L : Nat) (e : Ending) (w' : World) : Prop := ∃ b, e = .returned (.pointer (some ⟨b, 0, none⟩)) ∧ RQ w' b q L ∧ w.grownBy w' none ∧ w.heap.size ≤ b

theorem newRatB (w : World) : Box (w.alloc (.cells #[.bool false, .slice none 0 0, .bool false, .slice none 0 0] 60)) w.heap.size 0 false (.slice none 0 0) ∧ Box (w.alloc (.cells #[.bool false, .slice none 0 0, .bool false, .slice none 0 0] 60)) w.heap.size 2 false (.slice none 0 0) :=
  ⟨by constructor <;> simp, by constructor <;> simp⟩

theorem gr_rput {w w1 w2 : World} {b : Nat} (h : w.grownBy w1 none) (k : RPut w1 w2 b) (hb : w.heap.size ≤ b) : w.grownBy w2 none :=
  gr_trans h k.gr (fun _ _ e => e) (fun c hc e => by cases e; omega)

theorem RatAt.q {w : World} {b : Nat} {x : Int} {y L : Nat} {q : Rat} (hy : 0 < y) (hq : mkRat x y = q) (h : RatAt w b (low1 x y) (low2 x y) L) : RQ w b q L := by
  obtain ⟨e1, e2⟩ := low_mk x y hy
  rw [e1, e2, hq] at h
  exact h

theorem mkRat_one (x : Int) : mkRat x 1 = (x : Rat) := by
  rw [Rat.mkRat_eq_div]
  have : ((1 : Nat) : Rat) = 1 := rfl
  rw [this, Rat.div_def]
  have : (1 : Rat)⁻¹ = 1 := by decide +kernel
  rw [this, Rat.mul_one]

end Go.Proofs.YtgdiepfknfnmjaaGreatDoor

namespace Go.Proofs.YtgdiepfknfnmjaaGreatDoor
open Go.RowKit
set_option linter.unusedVariables false
set_option linter.unusedSimpArgs false

set_option maxHeartbeats 2000000 in
theorem setInt_at (bz bx ox : Nat) (n1 n2 : Bool) (v1 v2 : Value) (x : Int) (L : Nat) (w : World) (hz1 : Box w bz 0 n1 v1) (hz2 : Box w bz 2 n2 v2) (hX : IntAt w bx ox x L) (hL : 2 ≤ L) (hL2 : L ≤ 400000000) :
    Calls Tryz.prog 26 #[.pointer (some ⟨bz, 0, none⟩), .pointer (some ⟨bx, ox, none⟩)] w fun e w' => e = .returned (.pointer (some ⟨bz, 0, none⟩)) ∧ RPut w w' bz ∧ RQ w' bz (x : Rat) (L + 2) := by
  have Z1 := hide hz1
  have Z2 := hide hz2
  have HX := hide hX
  clear hz1 hz2 hX
  go_enter Tryz.func26, Tryz.ntmps26
  go_wp2_with fail
  refine (newInt_at 1 _ (by omega) (by omega)).mono ?_
  rintro e w1 ⟨rfl, a1, a2, a3⟩
  have A1 := hide a1
  have A2 := hide a2
  clear a1 a2 a3
  go_wp2_with fail
  refine (setFrac_pos bz bx ox w.heap.size 0 n1 n2 v1 v2 x 1 L _ (Z1.out.keep0 A1.out) (Z2.out.keep0 A1.out) (HX.out.keep0 A1.out) (A2.out.mono hL) (by omega) hL2).mono ?_
  rintro e w2 ⟨rfl, b1, b2⟩
  have B1 := hide b1
  have B2 := hide b2
  clear b1 b2
  go_wp2
  go_ret
  exact ⟨rfl, (RPut.of_gr A1.out).trans B1.out, RatAt.q (by omega) (mkRat_one x) B2.out⟩

end Go.Proofs.YtgdiepfknfnmjaaGreatDoor

namespace Go.Proofs.YtgdiepfknfnmjaaGreatDoor
open Go.RowKit
set_option linter.unusedVariables false
set_option linter.unusedSimpArgs false

set_option maxHeartbeats 2000000 in
theorem setInt64R_at (bz : Nat) (n1 n2 : Bool) (v1 v2 : Value) (x : Int) (w : World) (hz1 : Box w bz 0 n1 v1) (hz2 : Box w bz 2 n2 v2) (h1 : -9223372036854775808 ≤ x) (h2 : x ≤ 9223372036854775807) :
    Calls Tryz.prog 118 #[.pointer (some ⟨bz, 0, none⟩), .int .i64 x] w fun e w' => e = .returned (.pointer (some ⟨bz, 0, none⟩)) ∧ RPut w w' bz ∧ RQ w' bz (x : Rat) 4 := by
  have Z1 := hide hz1
  have Z2 := hide hz2
  clear hz1 hz2
  go_enter Tryz.func118, Tryz.ntmps118
  go_wp2_with fail
  refine (newInt_at x _ h1 h2).mono ?_
  rintro e w1 ⟨rfl, a1, a2, a3⟩
  have A1 := hide a1
  have A2 := hide a2
  clear a1 a2 a3
  go_wp2_with fail
  refine (newInt_at 1 _ (by omega) (by omega)).mono ?_
  rintro e w2 ⟨rfl, b1, b2, b3⟩
  have B1 := hide b1
  have B2 := hide b2
  clear b1 b2 b3
  go_wp2_with fail
  refine (setFrac_pos bz w.heap.size 0 w1.heap.size 0 n1 n2 v1 v2 x 1 2 _ ((Z1.out.keep0 A1.out).keep0 B1.out) ((Z2.out.keep0 A1.out).keep0 B1.out) (A2.out.keep0 B1.out) B2.out (by omega) (by omega)).mono ?_
  rintro e w3 ⟨rfl, c1, c2⟩
  have C1 := hide c1
  have C2 := hide c2
  clear c1 c2
  go_wp2
  go_ret
  exact ⟨rfl, ((RPut.of_gr A1.out).trans (RPut.of_gr B1.out)).trans C1.out, RatAt.q (by omega) (mkRat_one x) C2.out⟩

set_option maxHeartbeats 2000000 in
theorem rN_at (x : Int) (w : World) (h1 : -9223372036854775808 ≤ x) (h2 : x ≤ 9223372036854775807) :
    Calls Tryz.prog 74 #[.int .i64 x] w fun e w' => RQE w (x : Rat) 4 e w' := by
  go_enter Tryz.func74, Tryz.ntmps74
  go_wp2_with fail
  refine (setInt64R_at w.heap.size false false (.slice none 0 0) (.slice none 0 0) x _ (newRatB w).1 (newRatB w).2 h1 h2).mono ?_
  rintro e w1 ⟨rfl, a1, a2⟩
  have A1 := hide a1
  have A2 := hide a2
  clear a1 a2
  go_wp2
  go_ret
  exact ⟨_, rfl, A2.out, gr_rput (gr_alloc (gr_refl _ _) _) A1.out (Nat.le_refl _), Nat.le_refl _⟩

set_option maxHeartbeats 2000000 in
theorem rMul_at (bx bY : Nat) (p q : Rat) (L M : Nat) (w : World) (hX : RQ w bx p L) (hY : RQ w bY q M) (hL : L + M ≤ 400000000) :
    Calls Tryz.prog 25 #[.pointer (some ⟨bx, 0, none⟩), .pointer (some ⟨bY, 0, none⟩)] w fun e w' => RQE w (p * q) (L + M + 2) e w' := by
  have HX := hide hX
  have HY := hide hY
  clear hX hY
  go_enter Tryz.func25, Tryz.ntmps25
  go_wp2_with fail
  have g1 := gr_alloc (gr_refl w none) (.cells #[.bool false, .slice none 0 0, .bool false, .slice none 0 0] 60)
  refine (ratMul_at w.heap.size bx bY false false (.slice none 0 0) (.slice none 0 0) _ _ _ _ L M _ (newRatB w).1 (newRatB w).2 (HX.out.keep0 g1) (HY.out.keep0 g1) hL).mono ?_
  rintro e w1 ⟨rfl, a1, a2⟩
  have A1 := hide a1
  have A2 := hide a2
  clear a1 a2 g1
  go_wp2
  go_ret
  exact ⟨_, rfl, RatAt.q (Nat.mul_pos p.den_pos q.den_pos) (Rat.mul_def' p q).symm A2.out, gr_rput (gr_alloc (gr_refl _ _) _) A1.out (Nat.le_refl _), Nat.le_refl _⟩
end Go.Proofs.YtgdiepfknfnmjaaGreatDoor
