/- frac: combine: a x + b y, word by word. -/
import Derived.Test.YtfhamfgcjdhmdaaDoorFBits
namespace Go.Proofs.YtfhamfgcjdhmdaaDoor
open Go.RowKit
set_option linter.unusedVariables false

/-- combine's loop: what stands of the first k words. -/
def CombInv (w wr : World) (xs ys : List Nat) (a b : Int) (k : Nat) (c : Int) : Prop :=
  ∃ done : List Nat, done.length = k ∧ Sm done ∧ Arr wr w.heap.size (done ++ List.replicate (xs.length - k) 0) ∧ w.grownBy wr none ∧
    (val done : Int) + (4294967296 ^ k : Nat) * c = a * (val (xs.take k) : Nat) + b * (val (ys.take k) : Nat)

theorem val_take_getD (ys : List Nat) (k : Nat) : val (ys.take (k + 1)) = val (ys.take k) + 4294967296 ^ k * ys.getD k 0 := by
  by_cases h : k < ys.length
  · rw [val_take_succ ys k h]; simp [h]
  · rw [List.take_of_length_le (by omega), List.take_of_length_le (by omega)]
    simp [List.getD, h]

theorem comb_alg (D p c a b X x Y y t : Int) (h : D + p * c = a * X + b * Y) (ht : t = c + a * x + b * y) : D + p * t = a * (X + p * x) + b * (Y + p * y) := by
  subst ht
  have e1 : a * (X + p * x) = a * X + p * (a * x) := by rw [Int.mul_add, Int.mul_left_comm]
  have e2 : b * (Y + p * y) = b * Y + p * (b * y) := by rw [Int.mul_add, Int.mul_left_comm]
  rw [e1, e2, Int.mul_add, Int.mul_add]
  omega

theorem CombInv.step {w wr : World} {xs ys : List Nat} {a b c : Int} {k : Nat} (h : CombInv w wr xs ys a b k c) (hk : k < xs.length) (x y : Nat) (hx : x = xs[k]) (hy : y = ys.getD k 0) (t z : Int) (ht : t = c + a * x + b * y) (hz : z = t % 4294967296) :
    CombInv w (wr.setCell ⟨w.heap.size, k, none⟩ (.int .u32 z)) xs ys a b (k + 1) (t / 4294967296) := by
  obtain ⟨done, h1, h2, h3, h4, h5⟩ := h
  obtain ⟨r, hr⟩ : ∃ r : Nat, (r : Int) = t % 4294967296 := ⟨(t % 4294967296).toNat, by omega⟩
  have hrb : r < 4294967296 := by omega
  refine ⟨done ++ [r], by simp [h1], h2.append (Sm.cons hrb Sm.nil), ?_, gr_set h4 _ _ (Nat.le_refl _), ?_⟩
  · have := h3.set k r
    rw [hz, ← hr]
    have e : (done ++ List.replicate (xs.length - k) 0).set k r = (done ++ [r]) ++ List.replicate (xs.length - (k + 1)) 0 := by
      obtain ⟨m, hm⟩ : ∃ m, xs.length - k = m + 1 := ⟨xs.length - k - 1, by omega⟩
      rw [hm, show xs.length - (k + 1) = m from by omega]
      subst h1
      rw [List.set_append_right _ _ (Nat.le_refl _)]
      simp [List.replicate_succ]
    rw [e] at this
    exact this
  · rw [val_snoc, h1, val_take_succ xs k hk, ← hx, val_take_getD ys k, ← hy]
    rw [Int.natCast_add, Int.natCast_add, Int.natCast_add, Int.natCast_mul, Int.natCast_mul, Int.natCast_mul, Nat.pow_succ, Int.natCast_mul]
    generalize ((4294967296 ^ k : Nat) : Int) = p at h5 ⊢
    have e := comb_alg _ p c a b _ (x : Int) _ (y : Int) t h5 ht
    rw [← e]
    have e2 : t = r + 4294967296 * (t / 4294967296) := by omega
    generalize t / 4294967296 = q at e2 ⊢
    rw [e2, Int.mul_add, Int.mul_assoc]
    simp only [Int.add_assoc]
    rfl

theorem prod_bd (a : Int) (x : Nat) (h1 : -1073741824 < a) (h2 : a < 1073741824) (hx : x < 4294967296) : -4611686014132420609 ≤ a * (x : Int) ∧ a * (x : Int) ≤ 4611686014132420609 := by
  have k1 : a * (x : Int) ≤ 1073741823 * (x : Int) := Int.mul_le_mul_of_nonneg_right (by omega) (by omega)
  have k2 : -1073741823 * (x : Int) ≤ a * (x : Int) := Int.mul_le_mul_of_nonneg_right (by omega) (by omega)
  omega

/-- What combine answers. -/
def CombE (w : World) (n L : Nat) (e : Ending) (w' : World) : Prop := ∃ v', e = .returned v' ∧ Num w' v' n L ∧ w.grownBy w' none ∧ Fresh w v'

theorem comb_end {w wr : World} {xs ys : List Nat} {a b c u : Int} (h : CombInv w wr xs ys a b xs.length c) (hys : ys.length ≤ xs.length) (hu : u = a * (val xs : Nat) + b * (val ys : Nat)) (h0 : 0 ≤ u) (h1 : u < (4294967296 ^ xs.length : Nat)) :
    ∃ done : List Nat, done.length = xs.length ∧ Sm done ∧ Arr wr w.heap.size done ∧ w.grownBy wr none ∧ val done = u.toNat := by
  obtain ⟨done, k1, k2, k3, k4, k5⟩ := h
  rw [Nat.sub_self, List.replicate_zero, List.append_nil] at k3
  refine ⟨done, k1, k2, k3, k4, ?_⟩
  rw [List.take_of_length_le (Nat.le_refl _), List.take_of_length_le hys, ← hu] at k5
  have hd := val_lt k2
  rw [k1] at hd
  have hp : (0 : Int) < (4294967296 ^ xs.length : Nat) := by
    have : 0 < 4294967296 ^ xs.length := Nat.pow_pos (by decide)
    omega
  generalize hP : (4294967296 ^ xs.length : Nat) = P at *
  have hc : c = 0 := by
    rcases Int.lt_trichotomy c 0 with h | h | h
    · have := Int.mul_le_mul_of_nonneg_left (show c ≤ -1 by omega) (Int.le_of_lt hp)
      omega
    · exact h
    · have := Int.mul_le_mul_of_nonneg_left (show 1 ≤ c by omega) (Int.le_of_lt hp)
      omega
  rw [hc, Int.mul_zero] at k5
  omega

/-- combine's loop, its slots. -/
def CombR (w : World) (xs ys : List Nat) (a b : Int) (cv iv : Value) (wr : World) : Prop := ∃ (k : Nat) (c : Int), k ≤ xs.length ∧ -2147483648 ≤ c ∧ c ≤ 2147483648 ∧ iv = .int .i64 k ∧ cv = .int .i64 c ∧ CombInv w wr xs ys a b k c

set_option maxHeartbeats 1000000 in
theorem combine_ws (va vb : Value) (xs ys : List Nat) (a b u : Int) (w : World) (ha : Ws w va xs) (hb : Ws w vb ys) (hys : ys.length ≤ xs.length) (a1 : -1073741824 < a) (a2 : a < 1073741824) (b1 : -1073741824 < b) (b2 : b < 1073741824) (hu : u = a * (val xs : Nat) + b * (val ys : Nat)) (h0 : 0 ≤ u) (h1 : u ≤ (val xs : Nat)) (hl : xs.length ≤ 1000000000) :
    Calls Tryd.prog 56 #[va, vb, .int .i64 a, .int .i64 b] w fun e w' => CombE w u.toNat xs.length e w' := by
  obtain ⟨ao, ca, rfl, hca, hca', Ha⟩ := ha.open
  obtain ⟨bo, cb, rfl, hcb, hcb', Hb⟩ := hb.open
  unfold maxLen at hca' hcb'
  have HA := hide Ha
  have HB := hide Hb
  have SA := hide ha.sm
  have SB := hide hb.sm
  have HU := hide hu
  have H1 := hide h1
  clear Ha ha Hb hb hu h1
  go_enter Tryd.func56, Tryd.ntmps56
  go_wp2_with (at_make; refine wpList_make_words _ rfl _ _ 62 rfl Tryd.underlying62 Tryd.info32 _ _ _ _ xs.length rfl rfl (by omega) (by omega) (by omega) ?_)
  intro w1 harr hgr
  have HR := hide harr
  have HG := hide hgr
  clear harr hgr
  go_wp2
  go_loopw [10, 18] (fun cv iv wr => Hid (CombR w xs ys a b cv iv wr)) (fun _ iv _ => xs.length - (intOf iv).toNat)
  case atStart => exact ⟨0, 0, Nat.zero_le _, by omega, by omega, rfl, rfl, [], rfl, Sm.nil, by simpa using HR.out, HG.out, by simp [val]⟩
  case round =>
    obtain ⟨k, c, hk, hc1, hc2, rfl, rfl, HI'⟩ := hrel.out
    have HI := hide HI'
    clear hrel HI'
    by_cases hlt : k < xs.length
    · obtain ⟨b', off, rfl, hbl, hcell⟩ := unhide HA k hlt
      have hx := (unhide SA).get k hlt
      obtain ⟨x, ex⟩ : ∃ x, x = xs[k] := ⟨_, rfl⟩
      rw [← ex] at hcell hx
      have EX := hide ex
      clear ex
      obtain ⟨done, h1, h2, h3, h4, h5⟩ := HI.out
      have hcx : wr.cell? ⟨b', off + k, none⟩ = some (.int .u32 (x : Nat)) := h4.cell hcell (by simp)
      have hf1 : wr.frozen? ⟨w.heap.size, k, none⟩ = false := h3.free k
      obtain ⟨v0, hc0⟩ : ∃ v, wr.cell? ⟨w.heap.size, k, none⟩ = some v := ⟨_, h3.cell k (by simp [h1]; omega)⟩
      have hgw := hide h4
      clear h1 h2 h3 h4 h5 hcell
      obtain ⟨p1, p2⟩ := prod_bd a x a1 a2 hx
      by_cases hlt2 : k < ys.length
      · obtain ⟨b2', off2, rfl, hbl2, hcell2⟩ := unhide HB k hlt2
        have hy := (unhide SB).get k hlt2
        obtain ⟨y, ey⟩ : ∃ y, y = ys[k] := ⟨_, rfl⟩
        rw [← ey] at hcell2 hy
        have EY : Hid (y = ys.getD k 0) := by rw [ey]; show _ = _; simp [hlt2]
        have hcy : wr.cell? ⟨b2', off2 + k, none⟩ = some (.int .u32 (y : Nat)) := hgw.out.cell hcell2 (by simp)
        clear ey hcell2
        obtain ⟨p3, p4⟩ := prod_bd b y b1 b2 hy
        go_wp2
        go_roundw
        case rel => exact ⟨k + 1, (c + a * x + b * y) / 4294967296, by omega, by omega, by omega, by go_num, by go_num, HI.out.step hlt x y EX.out EY.out _ _ rfl (by first | rfl | omega)⟩
        case measure => simp [intOf]; omega
      · have EY : Hid ((0 : Nat) = ys.getD k 0) := by show _ = _; simp [List.getD, show ¬ k < ys.length from hlt2]
        go_wp2
        go_roundw
        case rel => exact ⟨k + 1, (c + a * x) / 4294967296, by omega, by omega, by omega, by go_num, by go_num, HI.out.step hlt x 0 EX.out EY.out _ _ (by simp) (by first | rfl | omega)⟩
        case measure => simp [intOf]; omega
    · obtain rfl : k = xs.length := by omega
      have hlt' := val_lt SA.out
      have hup := H1.out
      obtain ⟨done, e1, e2, e3, e4, e5⟩ := comb_end HI.out hys HU.out h0 (by omega)
      have hw := e3.ws e2 (by rw [e1]; unfold maxLen; omega)
      rw [e1] at hw
      have HW := hide hw
      have E1 := hide e1
      have E4 := hide e4
      have E5 := hide e5
      clear e1 e2 e3 e4 e5 hw hlt' hup
      go_wp2_with fail
      refine (ftrim_num _ done _ HW.out).mono ?_
      rintro e w2 ⟨v', rfl, rfl, k1, k2⟩
      have K1 := hide k1
      have K2 := hide k2
      clear k1 k2
      go_wp2
      go_ret
      refine ⟨v', rfl, ?_, E4.out, ?_⟩
      · have := K1.out
        rw [E5.out, E1.out] at this
        exact this
      · intro j hj
        rw [K2.out] at hj
        simp [blockOf] at hj
        omega
end Go.Proofs.YtfhamfgcjdhmdaaDoor
