/- frac: what is left of numbers where they are counted up to a prime only: left, Turned. -/
import Derived.Test.YtbihhkcgiepgaaeGreatDoorMFa
import Derived.Test.YtbihhkcgiepgaaeGreatDoorMBase
namespace Go.Proofs.YtbihhkcgiepgaaeGreatDoor
open Go.RowKit
set_option linter.unusedVariables false
set_option linter.unusedSimpArgs false

def NlfR (w : World) (xs : List Nat) (d : Nat) (rv iv : Value) (wr : World) : Prop :=
  ∃ k r : Nat, k ≤ xs.length ∧ r = val (xs.drop k) % d ∧ iv = .int .i64 ((k : Int) - 1) ∧ rv = .int .u64 r ∧ w.grownBy wr none

theorem left_step (xs : List Nat) (k d : Nat) (h : k < xs.length) : (val (xs.drop (k + 1)) % d * 4294967296 + xs[k]) % d = val (xs.drop k) % d := by
  rw [val_drop_succ xs k, List.getD_eq_getElem?_getD, List.getElem?_eq_getElem h, Option.getD_some, Nat.add_comm, Nat.add_mod, Nat.mod_mul_mod, ← Nat.add_mod, Nat.mul_comm 4294967296]

set_option maxHeartbeats 2000000 in
set_option maxRecDepth 10000 in
theorem nleft_at (v : Value) (xs : List Nat) (d : Nat) (w : World) (hv : Ws w v xs) (hd0 : 0 < d) (hd : d < 4294967296) :
    Calls Tryz.prog 350 #[v, .int .u32 (d : Nat)] w fun e w' => e = .returned (.int .u32 ((val xs % d : Nat) : Int)) ∧ w.grownBy w' none := by
  have HV := hide hv
  have HS := hide hv.sm
  obtain ⟨ao, cap, rfl, hc1, hc2, hao⟩ := hv.open
  unfold maxLen at hc2
  clear hao hv
  go_enter Tryz.func350, Tryz.ntmps350
  go_wp2
  go_loopw [5, 6] (fun rv iv wr => Hid (NlfR w xs d rv iv wr)) (fun _ iv _ => (intOf iv + 1).toNat)
  case atStart => exact ⟨xs.length, 0, Nat.le_refl _, by rw [List.drop_of_length_le (Nat.le_refl _)]; simp [val], by go_num, rfl, gr_refl _ _⟩
  case round =>
    obtain ⟨k, r, hk, hr, rfl, rfl, g1⟩ := hrel.out
    have G1 := hide g1
    have hrd : r < d := by rw [hr]; exact Nat.mod_lt _ hd0
    have HR := hide hr
    clear hr g1 hrel
    by_cases h0 : k = 0
    · subst h0
      have e0 : (((0 : Nat) : Int) - 1) = -1 := rfl
      rw [e0]
      go_wp2
      go_ret
      refine ⟨?_, G1.out⟩
      have := HR.out
      rw [List.drop_zero] at this
      rw [← this]
      rfl
    · obtain ⟨j, rfl⟩ : ∃ j, k = j + 1 := ⟨k - 1, by omega⟩
      have ej : (((j + 1 : Nat) : Int) - 1) = (j : Int) := by omega
      rw [ej]
      have hj : j < xs.length := by omega
      obtain ⟨b, off, e1, hb, hcell⟩ : ∃ b off, ao = some ⟨b, off, none⟩ ∧ b < wr.heap.size ∧ wr.cell? ⟨b, off + j, none⟩ = some (.int .u32 (xs[j] : Nat)) := by
        obtain ⟨ao', cap', e, _, _, h⟩ := (HV.out.keep0 G1.out).open
        simp only [Value.slice.injEq, true_and] at e
        obtain ⟨rfl, rfl⟩ := e
        exact h j hj
      subst e1
      have hx := HS.out.get j hj
      obtain ⟨x, ex⟩ : ∃ x, x = xs[j] := ⟨_, rfl⟩
      rw [← ex] at hcell hx
      have EX := hide ex
      obtain ⟨m, hm⟩ : ∃ m, m = r * 4294967296 + x := ⟨_, rfl⟩
      have hor := or_word r x (by omega) hx
      rw [← hm] at hor
      have hmb : m < 18446744073709551616 := by omega
      have HM := hide hm
      clear ex ej h0 hm
      go_wp2
      go_roundw
      case rel => exact ⟨j, m % d, by omega, by rw [HM.out, HR.out, EX.out]; exact left_step xs j d hj, by go_num, by rw [Int.natCast_emod], G1.out⟩
      case measure => simp [intOf]

theorem turn_odd (p o s n : Nat) (h : n % 2 = 1) : (o * s % p * (s * s % p) ^ (n / 2)) % p = (o * s ^ n) % p := by
  have e : n = 2 * (n / 2) + 1 := by omega
  rw [Nat.mul_mod, Nat.mod_mod, Nat.pow_mod, Nat.mod_mod, ← Nat.pow_mod, ← Nat.mul_mod]
  conv => rhs; rw [e, Nat.pow_succ, Nat.pow_mul, Nat.pow_two]
  congr 1
  rw [Nat.mul_assoc, Nat.mul_comm s]

theorem turn_even (p o s n : Nat) (h : ¬ n % 2 = 1) : (o * (s * s % p) ^ (n / 2)) % p = (o * s ^ n) % p := by
  have e : n = 2 * (n / 2) := by omega
  rw [Nat.mul_mod, Nat.pow_mod, Nat.mod_mod, ← Nat.pow_mod, ← Nat.mul_mod]
  conv => rhs; rw [e, Nat.pow_mul, Nat.pow_two]

/-- What makes 1 of x, where whole numbers are counted up to p only. -/
def turnN (x p : Nat) : Nat := x ^ (p - 2) % p

theorem turnN_lt (x p : Nat) (h : 0 < p) : turnN x p < p := Nat.mod_lt _ h
theorem turnN_one (p : Nat) (h : 2 ≤ p) : turnN 1 p = 1 := by
  unfold turnN
  rw [Nat.one_pow, Nat.mod_eq_of_lt (by omega)]

def TrnR (x p : Nat) (ov sv nv : Value) : Prop :=
  ∃ o s n : Nat, o < p ∧ s < 4294967296 ∧ n < 4294967296 ∧ ov = .int .u64 o ∧ sv = .int .u64 s ∧ nv = .int .u32 n ∧ (o * s ^ n) % p = turnN x p

set_option maxHeartbeats 2000000 in
set_option maxRecDepth 10000 in
theorem turned_at (x p : Nat) (w : World) (hp : 2 ≤ p) (hp2 : p < 4294967296) (hx : x < 4294967296) :
    Calls Tryz.prog 337 #[.int .u32 (x : Nat), .int .u32 (p : Nat)] w fun e w' => e = .returned (.int .u32 ((turnN x p : Nat) : Int)) ∧ w' = w := by
  have ep : Hid (((p : Int) - 2) = ((p - 2 : Nat) : Int)) := by show _ = _; omega
  go_enter Tryz.func337, Tryz.ntmps337
  go_wp2
  go_loopw [5, 6, 7] (fun ov sv nv wr => wr = w ∧ Hid (TrnR x p ov sv nv)) (fun _ _ nv _ => (intOf nv).toNat)
  case atStart => exact ⟨rfl, 1, x, p - 2, by omega, hx, by omega, rfl, rfl, by rw [ep.out], by rw [Nat.one_mul]; rfl⟩
  case round =>
    obtain ⟨rfl, h⟩ := hrel
    obtain ⟨o, s, n, ho, hs, hn, rfl, rfl, rfl, hi⟩ := h.out
    have HI := hide hi
    clear hi h
    by_cases h0 : n = 0
    · subst h0
      go_wp2
      go_ret
      refine ⟨?_, rfl⟩
      have := HI.out
      rw [Nat.pow_zero, Nat.mul_one, Nat.mod_eq_of_lt ho] at this
      rw [← this]
      rfl
    · have hb1 := mul_bd o s (by omega) hs
      have hb2 := mul_bd s s hs hs
      have hb3 : (0 : Int) ≤ (o : Int) * (s : Int) := Int.mul_nonneg (by omega) (by omega)
      have hb4 : (0 : Int) ≤ (s : Int) * (s : Int) := Int.mul_nonneg (by omega) (by omega)
      have hd1 : o * s % p < p := Nat.mod_lt _ (by omega)
      have hd2 : s * s % p < p := Nat.mod_lt _ (by omega)
      by_cases hb : n % 2 = 1
      · have HB := hide hb
        go_wp2
        go_roundw
        case rel => exact ⟨by trivial, o * s % p, s * s % p, n / 2, hd1, by omega, by omega, by rw [Int.natCast_emod, Int.natCast_mul], by rw [Int.natCast_emod, Int.natCast_mul], by go_num, by rw [turn_odd p o s n HB.out]; exact HI.out⟩
        case measure => simp [intOf]; omega
      · have HB := hide hb
        go_wp2
        go_roundw
        case rel => exact ⟨by trivial, o, s * s % p, n / 2, ho, by omega, by omega, rfl, by rw [Int.natCast_emod, Int.natCast_mul], by go_num, by rw [turn_even p o s n HB.out]; exact HI.out⟩
        case measure => simp [intOf]; omega
end Go.Proofs.YtbihhkcgiepgaaeGreatDoor

namespace Go.Proofs.YtbihhkcgiepgaaeGreatDoor
open Go.RowKit
set_option linter.unusedVariables false
set_option linter.unusedSimpArgs false

set_option maxHeartbeats 1000000 in
set_option maxRecDepth 10000 in
theorem sclone_own (v : Value) (xs : List Nat) (w : World) (h : Ws w v xs) (hl : xs.length ≤ 10000000000000) :
    Calls Tryz.prog 336 #[v] w fun e w' => ∃ v', e = .returned v' ∧ Own w' w.heap.size v' xs ∧ w.grownBy w' none := by
  obtain ⟨i0, hi, hz0, hz1, hz2⟩ := info_parts Tryz.info32
  rcases h.sh with ⟨rfl, rfl⟩ | ⟨b, off, cap, rfl, hb, hl', hm, hc⟩
  · have hq : ∀ W, (binOp .eql 303 (.slice none 0 0) (.slice none 0 0)).run Tryz.prog W = .ok (.bool true) W := fun W => Lib.run_eql_slice_nil W _ _ none 0 0 0 0 Tryz.underlying303
    go_enter Tryz.func336, Tryz.ntmps336
    go_wp2
    go_ret
    exact ⟨_, rfl, own_nil _ _, gr_refl _ _⟩
  · have HC := hide hc
    have HH := hide h
    clear hc h
    unfold maxLen at hm
    have hq : ∀ W, (binOp .eql 303 (.slice (some ⟨b, off, none⟩) xs.length cap) (.slice none 0 0)).run Tryz.prog W = .ok (.bool false) W := fun W => Lib.run_eql_slice_nil W _ _ (some _) _ _ 0 0 Tryz.underlying303
    go_enter Tryz.func336, Tryz.ntmps336
    go_wp2_with (at_builtin; refine wpList_append_own _ rfl _ _ 303 rfl w.heap.size 234 i0 (.int .u32 0) 1 4 Tryz.underlying303 hi hz0 hz1 hz2 rfl (by decide) _ 0 [] rfl ?c0 ⟨b, off, none⟩ xs.length cap (wordCells xs).toList rfl ?c1 ?c2 ?c3 ?c4 ?c5 ?c6 ?_)
    case c0 => exact World.ownsRow_made w #[] 0 (Nat.le_refl _) (by unfold maxLen; omega) (by simp)
    case c1 => simp [wordCells]
    case c2 =>
      intro j u hj
      obtain ⟨hj', hju⟩ := List.getElem?_eq_some_iff.1 hj
      have hjl : j < xs.length := by simpa [wordCells] using hj'
      have := unhide HC j hjl
      have h2 := (World.grownBy_alloc w (Obj.cells #[] 234) none).cell this (by simp)
      rw [show (⟨b, off, none⟩ : Addr).add j = ⟨b, off + j, none⟩ from by simp [Addr.add]]
      rw [show u = .int .u32 (xs[j] : Nat) from by rw [← hju]; simp [wordCells]]
      exact h2
    case c3 =>
      intro u hu
      simp only [wordCells, List.mem_map] at hu
      obtain ⟨x, _, rfl⟩ := hu
      rfl
    case c4 => unfold maxLen; omega
    case c5 => omega
    case c6 => simp
    intro v' w1 hown hgr _
    have HO := hide hown
    have HG := hide hgr
    obtain ⟨ao', n', cap', rfl⟩ : ∃ ao' n' cap', v' = .slice ao' n' cap' := by
      rcases hown.2 with ⟨e, _⟩ | ⟨g, cap', cur, rfl, _⟩
      · exact ⟨_, _, _, e⟩
      · exact ⟨_, _, _, rfl⟩
    clear hown hgr
    go_wp2
    go_ret
    refine ⟨_, rfl, HO.out, ?_⟩
    exact gr_trans (r1 := none) (World.grownBy_alloc w _ none) HG.out (fun _ _ e => e) (fun b hb e => by simp [Value.ownBlock] at e; omega)


/-- One number more, times by. -/
def stepW (p by_ a b : Nat) : Nat := (a + by_ * b % p) % p

/-- ys times by added, from k on. -/
def subW (p by_ : Nat) (ys : List Nat) (k : Nat) (o : List Nat) : List Nat := o.take k ++ List.zipWith (stepW p by_) (o.drop k) ys

def restS (p t : Nat) (ys : List Nat) : Nat → List Nat → List Nat
  | 0, o => o
  | f + 1, o => if o.length < ys.length then o else restS p t ys f (trimL (subW p (p - o.getD (o.length - 1) 0 * t % p) ys (o.length - ys.length) o))

theorem stepW_top (p t a y : Nat) (hp : 0 < p) (h : y * t % p = 1) : stepW p (p - a * t % p) a y = 0 := by
  unfold stepW
  rw [Nat.add_mod_mod]
  have hr : a * t % p ≤ p := Nat.le_of_lt (Nat.mod_lt _ hp)
  obtain ⟨r, er⟩ : ∃ r, r = a * t % p := ⟨_, rfl⟩
  rw [← er] at hr ⊢
  have h1 : ((p - r) * y + r * y) % p = 0 := by
    rw [← Nat.add_mul, Nat.sub_add_cancel hr]
    exact Nat.mul_mod_right _ _
  have h2 : r * y % p = a % p := by
    rw [er, Nat.mod_mul_mod, Nat.mul_assoc, Nat.mul_comm t y, Nat.mul_mod, h, Nat.mul_one, Nat.mod_mod]
  rw [Nat.add_comm, Nat.add_mod, ← h2, ← Nat.add_mod]
  exact h1

theorem stepW_lt (p by_ a b : Nat) (hp : 0 < p) : stepW p by_ a b < p := Nat.mod_lt _ hp

theorem zip_snoc (f : Nat → Nat → Nat) : ∀ (xs ys : List Nat) (i : Nat) (hx : i < xs.length) (hy : i < ys.length), List.zipWith f (xs.take (i + 1)) (ys.take (i + 1)) = List.zipWith f (xs.take i) (ys.take i) ++ [f xs[i] ys[i]]
  | [], _, _, hx, _ => by simp at hx
  | _ :: _, [], _, _, hy => by simp at hy
  | x :: r, y :: s, 0, _, _ => by simp
  | x :: r, y :: s, i + 1, hx, hy => by
    have := zip_snoc f r s i (by simpa using hx) (by simpa using hy)
    simp only [List.take_succ_cons, List.zipWith_cons_cons, List.cons_append, List.getElem_cons_succ]
    rw [this]

theorem sm_zip (p by_ : Nat) (hp0 : 0 < p) (hp : p < 4294967296) (xs ys : List Nat) : Sm (List.zipWith (stepW p by_) xs ys) := by
  intro x hx
  obtain ⟨i, hi⟩ := List.mem_iff_getElem?.1 hx
  rw [List.getElem?_zipWith] at hi
  split at hi
  · cases hi
    exact Nat.lt_trans (stepW_lt _ _ _ _ hp0) hp
  · cases hi

theorem sub_trim_lt (p t : Nat) (ys o : List Nat) (hp : 0 < p) (hy : 0 < ys.length) (hl : ys.length ≤ o.length) (h : ys.getD (ys.length - 1) 0 * t % p = 1) :
    (trimL (subW p (p - o.getD (o.length - 1) 0 * t % p) ys (o.length - ys.length) o)).length < o.length := by
  obtain ⟨m, hm⟩ : ∃ m, ys.length = m + 1 := ⟨ys.length - 1, by omega⟩
  have hd : (o.drop (o.length - ys.length)).length = m + 1 := by rw [List.length_drop]; omega
  have e1 := zip_snoc (stepW p (p - o.getD (o.length - 1) 0 * t % p)) (o.drop (o.length - ys.length)) ys m (by omega) (by omega)
  rw [List.take_of_length_le (by omega), List.take_of_length_le (by omega)] at e1
  have e2 : (o.drop (o.length - ys.length))[m]'(by omega) = o.getD (o.length - 1) 0 := by
    rw [List.getElem_drop, List.getD_eq_getElem?_getD, List.getElem?_eq_getElem (by omega), Option.getD_some]
    congr 1
    omega
  have e3 : ys[m]'(by omega) = ys.getD (ys.length - 1) 0 := by
    rw [List.getD_eq_getElem?_getD, List.getElem?_eq_getElem (by omega), Option.getD_some]
    congr 1
    omega
  rw [e2, e3, stepW_top p t _ _ hp h] at e1
  unfold subW
  rw [e1, ← List.append_assoc, trimL_snoc_zero]
  refine Nat.lt_of_le_of_lt (trimL_length _) ?_
  rw [List.length_append, List.length_take, List.length_zipWith, List.length_take, List.length_take]
  omega

theorem restS_small {p t : Nat} {ys o : List Nat} {f : Nat} (h : o.length < ys.length) (hf : 0 < f) : restS p t ys f o = o := by
  obtain ⟨g, rfl⟩ : ∃ g, f = g + 1 := ⟨f - 1, by omega⟩
  rw [restS, if_pos h]

def RstR (w : World) (p t : Nat) (ys xs : List Nat) (v : Value) (wr : World) : Prop :=
  ∃ o f, Own wr w.heap.size v o ∧ Sm o ∧ restS p t ys f o = restS p t ys (xs.length + 1) xs ∧ o.length < f ∧ o.length ≤ xs.length ∧ w.grownBy wr none

def RsiR (w : World) (p by_ : Nat) (ys o : List Nat) (k g cap : Nat) (v : Value) (wr : World) : Prop :=
  ∃ i : Nat, i ≤ ys.length ∧ v = .int .i64 i ∧ Own wr w.heap.size (.slice (some ⟨g, 0, none⟩) o.length cap) (o.take k ++ List.zipWith (stepW p by_) ((o.drop k).take i) (ys.take i) ++ o.drop (k + i)) ∧ w.grownBy wr none
end Go.Proofs.YtbihhkcgiepgaaeGreatDoor

namespace Go.Proofs.YtbihhkcgiepgaaeGreatDoor
open Go.RowKit
set_option linter.unusedVariables false
set_option linter.unusedSimpArgs false

theorem getD_in (xs : List Nat) (i : Nat) (h : i < xs.length) : xs.getD i 0 = xs[i] := by
  rw [List.getD_eq_getElem?_getD, List.getElem?_eq_getElem h, Option.getD_some]

def TrsR (w : World) (o : List Nat) (g cap : Nat) (v : Value) (wr : World) : Prop :=
  ∃ k : Nat, k ≤ o.length ∧ v = .slice (some ⟨g, 0, none⟩) k cap ∧ trimL (o.take k) = trimL o ∧ wr = w

theorem RsiR.at {w wr : World} {p by_ : Nat} {ys o : List Nat} {k g cap i : Nat} (h : Own wr w.heap.size (.slice (some ⟨g, 0, none⟩) o.length cap) (o.take k ++ List.zipWith (stepW p by_) ((o.drop k).take i) (ys.take i) ++ o.drop (k + i))) (hk : o.length = k + ys.length) (hi : i < ys.length) (hg : w.grownBy wr none) (hgw : w.heap.size ≤ g) :
    ∃ a b, o[k + i]? = some a ∧ ys[i]? = some b ∧ wr.cell? ⟨g, k + i, none⟩ = some (.int .u32 (a : Nat)) ∧ wr.frozen? ⟨g, k + i, none⟩ = false ∧ ∀ z : Int, z = ((stepW p by_ a b : Nat) : Int) → RsiR w p by_ ys o k g cap (.int .i64 ((i + 1 : Nat) : Int)) (wr.setCell ⟨g, k + i, none⟩ (.int .u32 z)) := by
  have hmid : (List.zipWith (stepW p by_) ((o.drop k).take i) (ys.take i)).length = i := by
    rw [List.length_zipWith, List.length_take, List.length_take, List.length_drop]
    omega
  obtain ⟨mid, emid⟩ : ∃ mid, mid = List.zipWith (stepW p by_) ((o.drop k).take i) (ys.take i) := ⟨_, rfl⟩
  have hz := zip_snoc (stepW p by_) (o.drop k) ys i (by rw [List.length_drop]; omega) hi
  rw [← emid] at h hmid hz
  have hl := win_length o mid k i hmid (by omega)
  have h' := h
  rw [← hl] at h'
  obtain ⟨k1, k2, k3⟩ := h'.at (k + i) (by rw [hl]; omega)
  have hget := win_get o mid k i hmid (by omega)
  have e1 : (o.take k ++ mid ++ o.drop (k + i))[k + i]'(by rw [hl]; omega) = o[k + i]'(by omega) := by
    rw [List.getElem?_eq_getElem (by rw [hl]; omega)] at hget
    exact Option.some.inj hget
  rw [e1] at k1
  refine ⟨o[k + i]'(by omega), ys[i], List.getElem?_eq_getElem _, List.getElem?_eq_getElem _, k1, k2, fun z hz2 => ?_⟩
  have k4 := k3 _ z hz2
  rw [win_set o mid k i _ hmid (by omega), hl] at k4
  refine ⟨i + 1, by omega, rfl, ?_, gr_set hg _ _ hgw⟩
  rw [hz, List.getElem_drop]
  exact k4

theorem Own.front {w : World} {base g cap m n : Nat} {xs : List Nat} (h : Own w base (.slice (some ⟨g, 0, none⟩) m cap) xs) (hn : n ≤ xs.length) : Own w base (.slice (some ⟨g, 0, none⟩) n cap) (xs.take n) := by
  rcases h.2 with ⟨h0, _⟩ | ⟨g', cap', cur, h0, hb, hh, h1, h2, h3, h4⟩
  · simp at h0
  · simp only [Value.slice.injEq, Option.some.injEq, Addr.mk.injEq, and_true, true_and] at h0
    obtain ⟨rfl, rfl, rfl⟩ := h0
    refine ⟨by simp [wordCells], .inr ⟨g, cap, cur, ?_, hb, hh, ?_, h2, h3, ?_⟩⟩
    · rw [List.length_take, Nat.min_eq_left hn]
    · rw [List.length_take]; omega
    · have e : (wordCells (xs.take n)).toList = (wordCells xs).toList.take n := by simp [wordCells, List.map_take]
      rw [e, ← h4, List.take_take, List.length_take]
      congr 1
      omega

theorem RstR.next {w wr : World} {t by_ : Nat} {ys xs o o' : List Nat} {k g cap n f : Nat} (h1 : Own wr w.heap.size (.slice (some ⟨g, 0, none⟩) o.length cap) o') (h2 : o'.length = o.length) (h3 : Sm o') (h4 : o' = subW 4294967291 by_ ys k o) (h5 : by_ = 4294967291 - o.getD (o.length - 1) 0 * t % 4294967291) (h6 : o.length = k + ys.length) (h7 : trimL (o'.take n) = trimL o') (h8 : restS 4294967291 t ys f o = restS 4294967291 t ys (xs.length + 1) xs) (h9 : o.length < f) (h10 : o.length ≤ xs.length) (h11 : ys.getD (ys.length - 1) 0 * t % 4294967291 = 1) (h12 : 0 < ys.length) (h13 : w.grownBy wr none) (h14 : n ≤ o'.length) (h15 : trimL (o'.take n) = o'.take n) :
    RstR w 4294967291 t ys xs (.slice (some ⟨g, 0, none⟩) n cap) wr ∧ n < o.length := by
  have hl := sub_trim_lt 4294967291 t ys o (by decide) h12 (by omega) h11
  have hk : o.length - ys.length = k := by omega
  rw [hk, ← h5, ← h4] at hl
  have e : o'.take n = trimL o' := by rw [← h15, h7]
  have hn : n = (trimL o').length := by rw [← e, List.length_take]; omega
  refine ⟨⟨trimL o', f - 1, ?_, h3.trimL, ?_, by omega, by omega, h13⟩, by omega⟩
  · rw [← e]
    exact h1.front h14
  · obtain ⟨f', rfl⟩ : ∃ f', f = f' + 1 := ⟨f - 1, by omega⟩
    rw [← h8, restS, if_neg (by omega), hk, ← h5, ← h4]
    rfl

theorem RsiR.fin {w wr : World} {by_ : Nat} {ys o : List Nat} {k g cap : Nat} (h : Own wr w.heap.size (.slice (some ⟨g, 0, none⟩) o.length cap) (o.take k ++ List.zipWith (stepW 4294967291 by_) ((o.drop k).take ys.length) (ys.take ys.length) ++ o.drop (k + ys.length))) (hk : o.length = k + ys.length) (hs : Sm o) :
    Own wr w.heap.size (.slice (some ⟨g, 0, none⟩) o.length cap) (subW 4294967291 by_ ys k o) ∧ (subW 4294967291 by_ ys k o).length = o.length ∧ Sm (subW 4294967291 by_ ys k o) := by
  have e1 : (o.drop k).take ys.length = o.drop k := List.take_of_length_le (by rw [List.length_drop]; omega)
  have e2 : ys.take ys.length = ys := List.take_of_length_le (Nat.le_refl _)
  have e3 : o.drop (k + ys.length) = [] := List.drop_of_length_le (by omega)
  rw [e1, e2, e3, List.append_nil] at h
  refine ⟨h, ?_, (hs.take k).append (sm_zip _ _ (by decide) (by decide) _ _)⟩
  unfold subW
  rw [List.length_append, List.length_take, List.length_zipWith, List.length_drop]
  omega

set_option maxHeartbeats 4000000 in
set_option maxRecDepth 10000 in
theorem rest_at (x y : Value) (xs ys : List Nat) (w : World) (hx : Ws w x xs) (hy : Ws w y ys) (hy0 : 0 < ys.length) (hl : xs.length ≤ 1000000) (hl2 : ys.length ≤ 1000000)
    (t : Nat) (ht : t = turnN (ys.getD (ys.length - 1) 0) 4294967291) (hinv : ys.getD (ys.length - 1) 0 * t % 4294967291 = 1) :
    Calls Tryz.prog 293 #[x, y] w fun e w' => ∃ v, e = .returned v ∧ Ws w' v (restS 4294967291 t ys (xs.length + 1) xs) ∧ w.grownBy w' none := by
  obtain ⟨P, hP⟩ : ∃ P : Nat, P = 4294967291 := ⟨_, rfl⟩
  have hP2 : P < 4294967296 := by omega
  have htl : t < 4294967296 := by rw [ht]; exact Nat.lt_trans (turnN_lt _ _ (by decide)) (by decide)
  have HT := hide ht
  have HI := hide hinv
  have HX := hide hx
  have HY := hide hy
  have HSX := hide hx.sm
  have HSY := hide hy.sm
  obtain ⟨xo, xc, rfl, hxc, hxm, _⟩ := hx.open
  obtain ⟨yo, yc, rfl, hyc, hym, hyo⟩ := hy.open
  unfold maxLen at hxm hym
  obtain ⟨m, hm⟩ : ∃ m, ys.length = m + 1 := ⟨ys.length - 1, by omega⟩
  obtain ⟨yb, yf, ey, hyb, hyt⟩ := hyo m (by omega)
  subst ey
  have hyl := hy.sm.get m (by omega)
  obtain ⟨yt, eyt⟩ : ∃ yt, yt = ys[m]'(by omega) := ⟨_, rfl⟩
  rw [← eyt] at hyt hyl
  have EYT : Hid (ys.getD (ys.length - 1) 0 = yt) := by
    show _ = _
    rw [getD_in _ _ (by omega), eyt]
    congr 1
    omega
  have HM := hide hm
  clear hyo hx hy ht hinv eyt
  have hm1 : ((ys.length : Int) - 1) = (m : Int) := by omega
  go_enter Tryz.func293, Tryz.ntmps293
  go_wp2_with fail
  refine (sclone_own _ xs w HX.out (by omega)).mono ?_
  rintro e w1 ⟨v1, rfl, c1, c2⟩
  obtain ⟨ao, cap, rfl, hac, ham, hao⟩ := c1.open
  unfold maxLen at ham
  have C1 := hide c1
  have C2 := hide c2
  have hyt1 := c2.cell hyt (by simp)
  clear c1 c2 hao hm
  have ETT : Hid (turnN yt 4294967291 = t) := by show _ = _; rw [HT.out, EYT.out]
  go_wp2_with (go_at_call 337; refine (turned_at yt 4294967291 _ (by decide) (by decide) hyl).mono ?_; rintro e w2 ⟨rfl, rfl⟩; rw [ETT.out])
  clear hyt1 hyt ETT
  go_loopw [5] (fun v wr => Hid (RstR w 4294967291 t ys xs v wr)) (fun v _ => lenOf v)
  case atStart => exact ⟨xs, xs.length + 1, C1.out, HSX.out, rfl, by omega, Nat.le_refl _, C2.out⟩
  case round =>
    obtain ⟨o, f, o1, o2, o3, o4, o5, o6⟩ := hrel.out
    obtain ⟨oo, oc, rfl, hoc, hom, hoo⟩ := o1.open
    unfold maxLen at hom
    have O1 := hide o1
    have O2 := hide o2
    have O3 := hide o3
    have O6 := hide o6
    clear hrel o1 o2 o3 o6
    by_cases hlt : o.length < ys.length
    · clear hoo
      go_wp2
      go_ret
      refine ⟨_, rfl, ?_, O6.out⟩
      rw [← O3.out, restS_small hlt (by omega)]
      exact O1.out.ws O2.out
    · obtain ⟨g, rfl, hg1, hg2⟩ : ∃ g, oo = some ⟨g, 0, none⟩ ∧ w.heap.size ≤ g ∧ g < wr.heap.size := by
        rcases hoo with e | e
        · exfalso
          subst e
          rcases O1.out.2 with ⟨_, e2⟩ | ⟨g, cap', cur, e2, _⟩
          · omega
          · simp at e2
        · exact e
      obtain ⟨k, hk⟩ : ∃ k, o.length = k + ys.length := ⟨o.length - ys.length, by omega⟩
      have hlast : o.length - 1 < o.length := by omega
      obtain ⟨top, etop⟩ : ∃ top, top = o[o.length - 1] := ⟨_, rfl⟩
      obtain ⟨hct, _, _⟩ := O1.out.at (o.length - 1) hlast
      have htop := O2.out.get (o.length - 1) hlast
      rw [← etop] at hct htop
      have ETOP : Hid (o.getD (o.length - 1) 0 = top) := by show _ = _; rw [getD_in _ _ hlast, etop]
      obtain ⟨ol, hol⟩ : ∃ ol, ol = o.length - 1 := ⟨_, rfl⟩
      rw [← hol] at hct
      have ho1 : ((o.length : Int) - 1) = (ol : Int) := by omega
      have hb1 := mul_bd top t htop htl
      have hb0 : (0 : Int) ≤ (top : Int) * (t : Int) := Int.mul_nonneg (by omega) (by omega)
      obtain ⟨r, hr⟩ : ∃ r, r = top * t % 4294967291 := ⟨_, rfl⟩
      have hrl : r < 4294967291 := by rw [hr]; exact Nat.mod_lt _ (by decide)
      have hri : ((top : Int) * (t : Int)) % 4294967291 = (r : Int) := by rw [hr, Int.natCast_emod, Int.natCast_mul]; rfl
      obtain ⟨by_, hby⟩ : ∃ by_, by_ = 4294967291 - r := ⟨_, rfl⟩
      have hbi : (4294967291 - (r : Int)) = (by_ : Int) := by omega
      have hbl : by_ ≤ 4294967291 := by omega
      have HBY : Hid (by_ = 4294967291 - o.getD (o.length - 1) 0 * t % 4294967291) := by show _ = _; rw [ETOP.out, hby, hr]
      have hki : ((o.length : Int) - (ys.length : Int)) = (k : Int) := by omega
      have HK := hide hk
      clear hby hr hk etop hol hoo hlast
      go_wp2
      clear hct
      rename World => W0
      go_loopw [46] (fun v wr => Hid (RsiR w 4294967291 by_ ys o k g oc v wr)) (fun v _ => ys.length - (intOf v).toNat)
      case atStart =>
        refine ⟨0, by omega, rfl, ?_, O6.out⟩
        simp only [List.take_zero, List.zipWith_nil_left, List.append_nil, Nat.add_zero, List.take_append_drop]
        exact O1.out
      case round =>
        obtain ⟨i, hi, rfl, i1, i2⟩ := hrel.out
        have I1 := hide i1
        have I2 := hide i2
        clear hrel i1 i2
        by_cases hlt2 : i < ys.length
        · obtain ⟨a, b, ea, eb, a1, a2, a3⟩ := RsiR.at I1.out HK.out hlt2 I2.out hg1
          obtain ⟨yo', yc', ey', _, _, hyr⟩ := (HY.out.keep0 I2.out).open
          simp only [Value.slice.injEq, true_and] at ey'
          obtain ⟨ey1, ey2⟩ := ey'
          obtain ⟨yb', yf', ey3, _, hyi⟩ := hyr i hlt2
          rw [← ey1] at ey3
          simp only [Option.some.injEq, Addr.mk.injEq, and_true] at ey3
          obtain ⟨rfl, rfl⟩ := ey3
          have eb2 : ys[i] = b := by rw [List.getElem?_eq_getElem hlt2] at eb; exact Option.some.inj eb
          rw [eb2] at hyi
          have hbb : b < 4294967296 := by rw [← eb2]; exact HSY.out.get i hlt2
          have haa : a < 4294967296 := O2.out a (List.mem_of_getElem? ea)
          have hp1 := mul_bd by_ b (by omega) hbb
          have hp0 : (0 : Int) ≤ (by_ : Int) * (b : Int) := Int.mul_nonneg (by omega) (by omega)
          obtain ⟨q, hq⟩ : ∃ q, q = by_ * b % 4294967291 := ⟨_, rfl⟩
          have hql : q < 4294967291 := by rw [hq]; exact Nat.mod_lt _ (by decide)
          have hqi : ((by_ : Int) * (b : Int)) % 4294967291 = (q : Int) := by rw [hq, Int.natCast_emod, Int.natCast_mul]; rfl
          have A3 := hide a3
          have HQ : Hid (stepW 4294967291 by_ a b = (a + q) % 4294967291) := by show _ = _; unfold stepW; rw [hq]
          have HP0 := hide hp0
          clear a3 hq eb2 eb ea hyr ey1 ey2 hp0
          go_wp2
          go_roundw
          case rel => exact A3.out _ (by
            have hp0 := HP0.out
            rw [HQ.out]
            rw [IntWalk.u64_in ((by_ : Int) * (b : Int)) ⟨hp0, by omega⟩, Int.tmod_eq_emod_of_nonneg hp0, hqi, IntWalk.u64_in ((a : Int) + (q : Int)) ⟨by omega, by omega⟩, Int.tmod_eq_emod_of_nonneg (by omega)]
            omega)
          case measure => simp [intOf]; omega
        · obtain rfl : i = ys.length := by omega
          obtain ⟨o', eo'⟩ : ∃ o', o' = subW 4294967291 by_ ys k o := ⟨_, rfl⟩
          have OW : Hid (Own wr w.heap.size (.slice (some ⟨g, 0, none⟩) o.length oc) o' ∧ o'.length = o.length ∧ Sm o') := by
            rw [eo']
            exact RsiR.fin I1.out HK.out O2.out
          have EO := hide eo'
          obtain ⟨_, hol', _⟩ := OW.out
          clear eo' I1
          have HOL := hide hol'
          clear hol'
          go_wp2
          rename World => W1
          go_loopw [5] (fun v wr => Hid (TrsR W1 o' g oc v wr)) (fun v _ => lenOf v)
          case atStart => exact ⟨o.length, by rw [HOL.out]; exact Nat.le_refl _, rfl, by rw [← HOL.out, List.take_of_length_le (Nat.le_refl _)], rfl⟩
          case round =>
            obtain ⟨n, hn, rfl, ht, hwr⟩ := hrel.out
            subst hwr
            have TT := hide ht
            have hol' := HOL.out
            clear hrel ht
            obtain ⟨oa, ob, oq⟩ := OW.out
            rw [← ob] at oa
            by_cases h0 : n = 0
            · subst h0
              clear hol' oa ob oq
              go_wp2
              go_roundw
              case rel => exact RstR.next (k := k) OW.out.1 HOL.out OW.out.2.2 EO.out HBY.out HK.out TT.out O3.out o4 o5 HI.out hy0 I2.out (Nat.zero_le _) rfl |>.1
              case measure => simp [lenOf]; omega
            · obtain ⟨j, rfl⟩ : ∃ j, n = j + 1 := ⟨n - 1, by omega⟩
              obtain ⟨hcj, _, _⟩ := oa.at j (by omega)
              have hjl : j < o'.length := by omega
              have hjb : j ≤ 1000000 := by omega
              have hjo : j + 1 ≤ oc := by omega
              clear oa ob oq hol' ho1 hki hm1 hri hbi hlt2 hlt h0 hb1 hb0
              by_cases hz : o'[j] = 0
              · have HZ := hide hz
                rw [hz] at hcj
                clear hz
                go_wp2
                go_roundw
                case rel => exact ⟨j, by omega, by simp, by rw [← TT.out, trimL_take_zero o' j hjl HZ.out], rfl⟩
                case measure => simp [lenOf]
              · have HZ := hide hz
                obtain ⟨x, hx⟩ : ∃ x, x = o'[j] := ⟨_, rfl⟩
                rw [← hx] at hcj hz
                have hz' : (((x : Nat) : Int) == 0) = false := beq_eq_false_iff_ne.2 (by omega)
                clear hx hz
                go_wp2
                go_roundw
                case rel => exact RstR.next (k := k) OW.out.1 HOL.out OW.out.2.2 EO.out HBY.out HK.out TT.out O3.out o4 o5 HI.out hy0 I2.out (by omega) (trimL_take_pos o' j hjl HZ.out) |>.1
                case measure =>
                  have := (RstR.next (k := k) OW.out.1 HOL.out OW.out.2.2 EO.out HBY.out HK.out TT.out O3.out o4 o5 HI.out hy0 I2.out (by omega) (trimL_take_pos o' j hjl HZ.out)).2
                  simp [lenOf]
                  omega
end Go.Proofs.YtbihhkcgiepgaaeGreatDoor
