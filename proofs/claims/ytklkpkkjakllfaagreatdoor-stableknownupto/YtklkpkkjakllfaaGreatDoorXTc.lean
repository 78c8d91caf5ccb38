/- stable: everySecond. -/
import Derived.Test.YtklkpkkjakllfaaGreatDoorXTa
set_option linter.unusedVariables false
set_option linter.unusedSimpArgs false
set_option maxHeartbeats 4000000
set_option maxRecDepth 10000
namespace Go.Proofs.YtklkpkkjakllfaaGreatDoor
open Go.RowKit
def evP (p : Nat → Rat) (T : Nat) : Nat → Rat := fun j => if 2 * j < T then p (T - 1 - 2 * j) else 0
theorem frow_new {w : World} {q : Rat} {uo vo : Option Addr} {ul uc vl vc L : Nat} {t : TypeId} (h : FQ w (.agg #[.bool (rB q), .slice uo ul uc, .slice vo vl vc]) q L) :
    FRow (w.alloc (Obj.cells #[.bool (rB q), .slice uo ul uc, .slice vo vl vc] t)) w.heap.size 1 (fun _ => q) L := by
  refine ⟨_, _, heap_alloc_new w _, fun i hi => ?_⟩
  obtain rfl : i = 0 := by omega
  exact ⟨_, _, rfl, rfl, rfl, h.keep0 (gr_alloc (gr_refl _ _) _)⟩
def SecR (w : World) (p : Nat → Rat) (T L : Nat) (v1 v5 : Value) (wr : World) : Prop :=
  ∃ k : Nat, 2 * k ≤ T + 1 ∧ v1 = .int .i64 ((T : Int) - 1 - 2 * k) ∧ OwnF wr w.heap.size v5 k (evP p T) L ∧ w.grownBy wr none
theorem second_at (x : Value) (n T : Nat) (p : Nat → Rat) (L : Nat) (w : World) (hx : Rw w x n p L) (hT : T ≤ n) (hn : n ≤ 3000) :
    Calls Tryz.prog 37 #[x, .int .i64 ((T : Int) - 1)] w fun e w' => ∃ v, e = .returned v ∧ Rw w' v ((T + 1) / 2) (evP p T) L ∧ w.grownBy w' none := by
  have HX := hide hx
  obtain ⟨xo, xc, rfl, hc, hm, _⟩ := hx
  unfold maxLen at hm
  go_enter Tryz.func37, Tryz.ntmps37
  go_wp2
  go_loopw [1, 5] (fun v1 v5 wr => Hid (SecR w p T L v1 v5 wr)) (fun v1 _ _ => (intOf v1 + 2).toNat)
  case atStart => exact ⟨0, by omega, by first | rfl | (congr 1; omega) | simp, ownF_nil, gr_refl _ _⟩
  case round =>
    obtain ⟨k, hk, rfl, l1, l2⟩ := hrel.out
    obtain ⟨oa, oc, rfl⟩ := l1.shape
    have L1 := hide l1
    have L2 := hide l2
    clear l1 l2 hrel
    by_cases hlt : 2 * k < T
    · obtain ⟨t, ht⟩ : ∃ t, t = T - 1 - 2 * k := ⟨_, rfl⟩
      have et : (T : Int) - 1 - 2 * (k : Int) = ((t : Nat) : Int) := by omega
      rw [et]
      obtain ⟨ao, c, e, h1, h2, h3⟩ := HX.out
      simp only [Value.slice.injEq, true_and] at e
      obtain ⟨ex1, ex2⟩ := e
      obtain ⟨gx, ex3, hr⟩ := h3 (by omega)
      have hgl := hr.lt
      subst ex2 ex1 ex3
      obtain ⟨uo, ul, uc, do_, dl, dc, c0, c1, c2, c3, _⟩ := (hr.keep0 L2.out).at t (by omega)
      have C3 := hide c3
      have HT2 : Hid (evP p T k = p t ∧ (t : Int) = (T : Int) - 1 - 2 * (k : Int)) := by
        refine ⟨?_, et.symm⟩
        unfold evP
        rw [if_pos hlt, ht]
      have hi1 : (0 : Int) ≤ ((t : Nat) : Int) := by omega
      have hi2 : ((t : Nat) : Int) < (n : Int) := by omega
      clear c3 hr h1 h2 h3 et ht
      have hsz : w.heap.size ≤ wr.heap.size := L2.out.size
      go_wp2_with (at_builtin; refine wpList_append_fs _ rfl _ _ 62 rfl w.heap.size Tryz.underlying62 Tryz.infoF _ k (evP p T) L rfl (L1.out.keep0 (gr_alloc (gr_refl _ _) _)) wr.heap.size 1 1 (fun _ => p t) rfl (frow_new C3.out) (by decide) (by omega) (by simp; omega) ?_)
      intro ao5 cap5 w5 hown hgr hwk
      have HO : Hid (OwnF w5 w.heap.size (.slice ao5 (k + 1) cap5) (k + 1) (evP p T) L) := by
        refine hown.congr (fun i hi => ?_)
        by_cases h : i < k
        · rw [if_pos h]
        · rw [if_neg h, ← HT2.out.1]
          congr 1
          omega
      have HG : Hid (w.grownBy w5 none) := by
        refine gr_trans (r := none) (gr_none L2.out (gr_alloc (gr_refl _ _) _)) hgr (fun _ _ e => e) (fun b hb e => ?_)
        have := (L1.out.fresh b e.symm).1
        omega
      clear hown hgr hwk
      go_wp2
      go_roundw
      case rel => exact ⟨k + 1, by omega, by (have := HT2.out.2; simp only [Value.int.injEq, true_and]; omega), HO.out, HG.out⟩
      case measure => simp [intOf]; omega
    · have hneg : ¬ (0 : Int) ≤ (T : Int) - 1 - 2 * (k : Int) := by omega
      have ek : k = (T + 1) / 2 := by omega
      have EK := hide ek
      clear ek
      go_wp2
      go_ret
      exact ⟨_, rfl, by rw [← EK.out]; exact L1.out.rowF, L2.out⟩
theorem fit_rep {q : Rat} {e z : Int} {A : Nat} (he : e ≠ 0) (h1 : e.natAbs < 4294967296 ^ A) (h2 : z.natAbs < 4294967296 ^ A) (h : q * (e : Rat) = (z : Rat)) : FitW A q := by
  have h3 := den_mul_self q
  have h4 : q.num * e = z * (q.den : Int) := by
    have : ((q.num * e : Int) : Rat) = ((z * (q.den : Int) : Int) : Rat) := by
      rw [Rat.intCast_mul, Rat.intCast_mul, ← h3, ← h]
      have : (((q.den : Nat) : Int) : Rat) = ((q.den : Nat) : Rat) := rfl
      rw [this]
      grind
    exact Rat.intCast_inj.1 this
  have h5 : q.den ∣ e.natAbs := by
    have : q.den ∣ q.num.natAbs * e.natAbs := by
      rw [← Int.natAbs_mul, h4, Int.natAbs_mul]
      exact Nat.dvd_mul_left _ _
    exact Nat.Coprime.dvd_of_dvd_mul_left (Nat.Coprime.symm q.reduced) this
  obtain ⟨t, ht⟩ := h5
  have hp := q.den_pos
  have ht0 : 0 < t := by
    rcases Nat.eq_zero_or_pos t with h0 | h0
    · rw [h0, Nat.mul_zero] at ht
      omega
    · exact h0
  have h6 : q.num.natAbs * t = z.natAbs := by
    have := congrArg Int.natAbs h4
    rw [Int.natAbs_mul, Int.natAbs_mul, ht, Int.natAbs_natCast] at this
    have e2 : q.num.natAbs * (q.den * t) = (q.num.natAbs * t) * q.den := by
      rw [Nat.mul_comm q.den t, ← Nat.mul_assoc]
    rw [e2] at this
    exact Nat.eq_of_mul_eq_mul_right hp this
  refine ⟨?_, ?_⟩
  · show q.num.natAbs < _
    have : q.num.natAbs * 1 ≤ q.num.natAbs * t := Nat.mul_le_mul_left _ ht0
    omega
  · have : q.den * 1 ≤ q.den * t := Nat.mul_le_mul_left _ ht0
    omega
def Rep (r : Nat → Rat) (A : Nat) : Prop := ∃ e : Int, e ≠ 0 ∧ e.natAbs < 4294967296 ^ A ∧ ∀ j, ∃ z : Int, z.natAbs < 4294967296 ^ A ∧ r j * (e : Rat) = (z : Rat)
theorem Rep.fit {r : Nat → Rat} {A : Nat} (h : Rep r A) (j : Nat) : FitW A (r j) := by
  obtain ⟨e, h1, h2, h3⟩ := h
  obtain ⟨z, h4, h5⟩ := h3 j
  exact fit_rep h1 h2 h4 h5
theorem intQ_ne {e : Int} (h : e ≠ 0) : ((e : Int) : Rat) ≠ 0 := by
  intro h2
  exact h (Rat.intCast_inj.1 (h2.trans (by rfl)))
theorem mul_lt_pow {x y : Int} {A C : Nat} (h1 : x.natAbs < 4294967296 ^ A) (h2 : y.natAbs < 4294967296 ^ C) : (x * y).natAbs < 4294967296 ^ (A + C) := by
  rw [Int.natAbs_mul, Nat.pow_add]
  exact Nat.mul_lt_mul'' h1 h2
theorem Rep.below {a b : Nat → Rat} {A C : Nat} (ha : Rep a A) (hb : Rep b C) (h0 : b 0 ≠ 0) : FitW (A + C) (a 0 / b 0) ∧ (∀ j, FitW (A + C) (a 0 / b 0 * b j)) ∧ Rep (rowN a b) (A + C + 1) := by
  obtain ⟨e, e1, e2, e3⟩ := ha
  obtain ⟨f, f1, f2, f3⟩ := hb
  obtain ⟨y0, y1, y2⟩ := f3 0
  obtain ⟨x0, x1, x2⟩ := e3 0
  have hy0 : y0 ≠ 0 := by
    intro h
    rw [h] at y2
    have h7 : b 0 * (f : Rat) = 0 := y2
    rcases Rat.mul_eq_zero.1 h7 with h8 | h8
    · exact h0 h8
    · exact intQ_ne f1 h8
  have hbar : e * y0 ≠ 0 := Int.mul_ne_zero e1 hy0
  have hq : a 0 / b 0 * b 0 = a 0 := Rat.div_mul_cancel h0
  have hfr : (f : Rat) ≠ 0 := intQ_ne f1
  have hkey : ∀ j (y : Int), b j * (f : Rat) = (y : Rat) → a 0 / b 0 * b j * ((e * y0 : Int) : Rat) = ((x0 * y : Int) : Rat) := by
    intro j y hy
    rw [Rat.intCast_mul, Rat.intCast_mul, ← y2, ← hy, ← x2]
    grind
  refine ⟨?_, fun j => ?_, ?_⟩
  · refine fit_rep (z := x0 * f) hbar (mul_lt_pow e2 y1) (mul_lt_pow x1 f2) ?_
    rw [Rat.intCast_mul, Rat.intCast_mul, ← y2, ← x2]
    grind
  · obtain ⟨y, hy1, hy2⟩ := f3 j
    exact fit_rep hbar (mul_lt_pow e2 y1) (mul_lt_pow x1 hy1) (hkey j y hy2)
  · have hup : 4294967296 ^ (A + C) * 2 ≤ 4294967296 ^ (A + C + 1) := by
      rw [Nat.pow_succ]
      exact Nat.mul_le_mul_left _ (by decide)
    refine ⟨e * y0, hbar, Nat.lt_of_lt_of_le (mul_lt_pow e2 y1) (by omega), fun j => ?_⟩
    obtain ⟨x, hx1, hx2⟩ := e3 (j + 1)
    obtain ⟨y, hy1, hy2⟩ := f3 (j + 1)
    refine ⟨x * y0 - x0 * y, ?_, ?_⟩
    · have g1 := mul_lt_pow hx1 y1
      have g2 := mul_lt_pow x1 hy1
      omega
    · unfold rowN
      have g3 := hkey (j + 1) y hy2
      rw [Rat.intCast_sub]
      have g4 : a (j + 1) * ((e * y0 : Int) : Rat) = ((x * y0 : Int) : Rat) := by
        rw [Rat.intCast_mul, Rat.intCast_mul, ← hx2]
        grind
      rw [← g3, ← g4]
      grind
def fibS (S : Nat) : Nat → Nat
  | 0 => S
  | 1 => S
  | k + 2 => fibS S k + fibS S (k + 1) + 1
theorem rep_rows {a b : Nat → Rat} {S : Nat} (ha : Rep a S) (hb : Rep b S) : ∀ k, (∀ i, 1 ≤ i → i ≤ k → rowK a b i 0 ≠ 0) → Rep (rowK a b k) (fibS S k) ∧ Rep (rowK a b (k + 1)) (fibS S (k + 1))
  | 0, _ => ⟨ha, hb⟩
  | k + 1, h => by
    obtain ⟨h1, h2⟩ := rep_rows ha hb k (fun i h1 h2 => h i h1 (by omega))
    exact ⟨h2, (h1.below h2 (h (k + 1) (by omega) (by omega))).2.2⟩
theorem fib_mono {S : Nat} : ∀ k, fibS S k ≤ fibS S (k + 1)
  | 0 => Nat.le_refl _
  | k + 1 => by
    show fibS S (k + 1) ≤ fibS S k + fibS S (k + 1) + 1
    omega
theorem fib_le {S k m : Nat} (h : k ≤ m) : fibS S k ≤ fibS S m := by
  induction m with
  | zero => rw [show k = 0 by omega]; exact Nat.le_refl _
  | succ m ih =>
    by_cases e : k = m + 1
    · rw [e]; exact Nat.le_refl _
    · exact Nat.le_trans (ih (by omega)) (fib_mono m)
theorem fib_13 (S : Nat) (h : S ≤ 262200) : fibS S 13 ≤ 100000000 := by
  simp only [fibS]
  omega
def sumW (ws : Nat → Nat) : Nat → Nat
  | 0 => 0
  | n + 1 => sumW ws n + ws n
theorem shr_den_sum {p : Nat → Rat} {ws : Nat → Nat} (h : ∀ i, (p i).den < 4294967296 ^ ws i) : ∀ n, (shr p n).den ≤ 4294967296 ^ sumW ws n
  | 0 => by simp [shr, sumW]
  | n + 1 => by
    obtain ⟨h1, h2, _⟩ := cmn_parts (shr p n) (p n)
    show (cmnQ (shr p n) (p n)).den ≤ 4294967296 ^ (sumW ws n + ws n)
    rw [h2]
    have := shr_den_sum h n
    have h3 : Nat.lcm (shr p n).den (p n).den ≤ (shr p n).den * (p n).den := Nat.le_of_dvd (Nat.mul_pos (Rat.den_pos _) (Rat.den_pos _)) (Nat.lcm_dvd (Nat.dvd_mul_right _ _) (Nat.dvd_mul_left _ _))
    rw [Nat.pow_add]
    exact Nat.le_trans h3 (Nat.mul_le_mul this (Nat.le_of_lt (h n)))
theorem rep_poly {p : Nat → Rat} {n S : Nat} {ws : Nat → Nat} (hz : ∀ i, n ≤ i → p i = 0) (h : ∀ i, FitW (ws i) (p i)) (hS : ∀ i, i < n → ws i + sumW ws n + 1 ≤ S) (hS0 : sumW ws n + 1 ≤ S) :
    ∃ e : Int, e ≠ 0 ∧ e.natAbs < 4294967296 ^ S ∧ ∀ i, ∃ z : Int, z.natAbs < 4294967296 ^ S ∧ p i * (e : Rat) = (z : Rat) := by
  have hd := shr_den_sum (fun i => (h i).2) n
  refine ⟨((shr p n).den : Nat), by have := (shr p n).den_nz; omega, ?_, fun i => ?_⟩
  · rw [Int.natAbs_natCast]
    exact Nat.lt_of_le_of_lt hd ((Nat.pow_lt_pow_iff_right (by decide)).2 (by omega))
  · by_cases hi : i < n
    · obtain ⟨f, hf⟩ := (shr_dvd p n i hi).2
      refine ⟨(p i).num * (f : Int), ?_, ?_⟩
      · rw [Int.natAbs_mul, Int.natAbs_natCast]
        have h1 : f ≤ (shr p n).den := by
          rw [hf]
          exact Nat.le_mul_of_pos_left _ (Rat.den_pos _)
        have h2 : (p i).num.natAbs < 4294967296 ^ ws i := (h i).1
        have h3 : (p i).num.natAbs * f ≤ (p i).num.natAbs * 4294967296 ^ sumW ws n := Nat.mul_le_mul_left _ (Nat.le_trans h1 hd)
        have h4 : (p i).num.natAbs * 4294967296 ^ sumW ws n < 4294967296 ^ ws i * 4294967296 ^ sumW ws n := Nat.mul_lt_mul_of_pos_right h2 (Nat.pow_pos (by decide))
        rw [← Nat.pow_add] at h4
        exact Nat.lt_of_le_of_lt h3 (Nat.lt_of_lt_of_le h4 (Nat.pow_le_pow_right (by decide) (by have := hS i hi; omega)))
      · have h1 := den_mul_self (p i)
        have e1 : (((shr p n).den : Nat) : Rat) = ((p i).den : Rat) * (f : Rat) := by rw [hf]; exact Rat.natCast_mul _ _
        show p i * (((shr p n).den : Nat) : Rat) = _
        rw [e1, ← Rat.mul_assoc, h1, Rat.intCast_mul]
        rfl
    · refine ⟨0, Nat.pow_pos (by decide), ?_⟩
      rw [hz i (by omega), Rat.zero_mul]
      rfl
theorem rep_ev {p : Nat → Rat} {S T : Nat} (h : ∃ e : Int, e ≠ 0 ∧ e.natAbs < 4294967296 ^ S ∧ ∀ i, ∃ z : Int, z.natAbs < 4294967296 ^ S ∧ p i * (e : Rat) = (z : Rat)) : Rep (evP p T) S := by
  obtain ⟨e, h1, h2, h3⟩ := h
  refine ⟨e, h1, h2, fun j => ?_⟩
  unfold evP
  split
  · exact h3 _
  · exact ⟨0, Nat.pow_pos (by decide), by rw [Rat.zero_mul]; rfl⟩
end Go.Proofs.YtklkpkkjakllfaaGreatDoor
