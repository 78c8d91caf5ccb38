/- What Count says where Routh's rows stand; the closed facts. -/
import Derived.Test.YtbihhkcgiepgaaeGreatDoorTCount
import Derived.Test.YtbihhkcgiepgaaeGreatDoorMTa
import Derived.Test.YtbihhkcgiepgaaeGreatDoorTTextA
import Derived.Test.YtbihhkcgiepgaaeGreatDoorMPa
namespace Go.Proofs.YtbihhkcgiepgaaeGreatDoor
set_option linter.unusedVariables false
set_option linter.unusedSimpArgs false

/-- The number of a power, and of each second one below it. -/
def evP (p : Nat → Rat) (T : Nat) : Nat → Rat := fun j => if 2 * j < T then p (T - 1 - 2 * j) else 0

def fstR (p : Nat → Rat) (n k : Nat) : Rat := rowK (evP p n) (evP p (n - 1)) k 0

theorem rowK_zero {p : Nat → Rat} {n : Nat} : ∀ k j, n ≤ 2 * j + k → rowK (evP p n) (evP p (n - 1)) k j = 0
  | 0, j, h => by
    show evP p n j = 0
    unfold evP
    rw [if_neg (by omega)]
  | 1, j, h => by
    show evP p (n - 1) j = 0
    unfold evP
    rw [if_neg (by omega)]
  | k + 2, j, h => by
    show rowN (rowK _ _ k) (rowK _ _ (k + 1)) j = 0
    unfold rowN
    rw [rowK_zero k (j + 1) (by omega), rowK_zero (k + 1) (j + 1) (by omega)]
    grind

theorem row0_ev (p : Nat → Rat) (n : Nat) : row0 p n = evP p n := rfl

theorem row1_ev (p : Nat → Rat) (n : Nat) : row1 p n = evP p (n - 1) := by
  funext j
  unfold row1 evP
  by_cases h : 2 * j + 1 < n
  · rw [if_pos h, if_pos (by omega), show n - 1 - 1 - 2 * j = n - 2 - 2 * j by omega]
  · rw [if_neg h, if_neg (by omega)]

theorem RRt_one {s : Nat → Rat} {r : Int} (h : RRt s 1 r) : r = 0 := by
  rcases h.parted with ⟨_, h⟩ | ⟨h, _⟩
  · exact h
  · omega

/-- Sturm's way, of halves of a polynomial all of whose rows' first entries stand. -/
theorem cnt_regular {p : Nat → Rat} {N : Nat} {a b c : Int} (hp : PL p (N + 1)) (hz : ∀ i, 1 ≤ i → i ≤ N → fstR p (N + 1) i ≠ 0) (h : CntV p (N + 1) a b c) :
    a = ((N : Int) + upS (evP p (N + 1)) (evP p N) N).tdiv 2 ∧ b = 0 ∧ c = ((N : Int) - upS (evP p (N + 1)) (evP p N) N).tdiv 2 := by
  obtain ⟨m, u, r, s, d, k, l, h1, hk, hl, hj, hr, rfl, rfl, rfl⟩ := h
  have h00 : fstR p (N + 1) 0 ≠ 0 := by
    show evP p (N + 1) 0 ≠ 0
    unfold evP
    rw [if_pos (by omega)]
    exact hp.2 (by omega)
  have key : u = upS (evP p (N + 1)) (evP p N) N ∧ d = 1 := by
    rcases Nat.eq_zero_or_pos N with h0 | h0
    · subst h0
      have hm : m = 0 := by
        have := half1_len (by omega) h1
        omega
      subst hm
      rcases hj.parted with ⟨_, h5, _, h6⟩ | ⟨h5, _⟩
      · exact ⟨h5, h6⟩
      · omega
    · obtain ⟨M, rfl⟩ : ∃ M, N = M + 1 := ⟨N - 1, by omega⟩
      have e0 : halfP p (M + 1 + 1) 0 = rowP (evP p (M + 1 + 1)) (M + 1) := half0 p (M + 1 + 1) (by omega)
      have e1 : halfP p (M + 1 + 1) 1 = rowP (evP p (M + 1)) M := by
        rw [half1 p (M + 1 + 1) (by omega), row1_ev]
        rfl
      have h11 : evP p (M + 1) 0 ≠ 0 := hz 1 (by omega) (by omega)
      have hm : m = M + 1 := by
        refine PL_uniq h1 ?_
        rw [e1]
        have := PL_rowP (d := M) h11 1 (by decide)
        simpa [Rat.one_mul] using this
      subst hm
      rw [e0, e1] at hj
      exact jmp_rows M (evP p (M + 1 + 1)) (evP p (M + 1)) k l u s d hk hl (fun j hj => by unfold evP; rw [if_neg (by omega)]) (fun j hj => by unfold evP; rw [if_neg (by omega)])
        (fun n hn => by
          rcases Nat.eq_zero_or_pos n with h2 | h2
          · subst h2; exact h00
          · exact hz n h2 hn) _ _ (fun _ => rfl) (fun _ => rfl) hj
  obtain ⟨k1, k2⟩ := key
  subst k2
  have hr0 := RRt_one hr
  subst hr0
  rw [k1]
  refine ⟨?_, rfl, ?_⟩
  · congr 1
    omega
  · congr 1
    omega

/-- How often neighbours' signs differ. -/
def chgN (F : Nat → Rat) : Nat → Nat
  | 0 => 0
  | n + 1 => chgN F n + (if (F (n + 1)).num.sign = (F n).num.sign then 0 else 1)

theorem sign_two {q : Rat} (h : q ≠ 0) : q.num.sign = 1 ∨ q.num.sign = -1 := by
  rcases Int.lt_trichotomy q.num 0 with h1 | h1 | h1
  · exact .inr (Int.sign_eq_neg_one_of_neg h1)
  · exact absurd (Rat.num_eq_zero.1 h1) h
  · exact .inl (Int.sign_eq_one_of_pos h1)

theorem upS_chg (a b : Nat → Rat) : ∀ N, (∀ i, i ≤ N → rowK a b i 0 ≠ 0) → upS a b N = (N : Int) - 2 * (chgN (fun i => rowK a b i 0) N : Nat)
  | 0, _ => rfl
  | N + 1, h => by
    have ih := upS_chg a b N (fun i hi => h i (by omega))
    show upS a b N + sgn1 (rowK a b N 0) * sgn1 (rowK a b (N + 1) 0) = _
    have ec : chgN (fun i => rowK a b i 0) (N + 1) = chgN (fun i => rowK a b i 0) N + (if (rowK a b (N + 1) 0).num.sign = (rowK a b N 0).num.sign then 0 else 1) := rfl
    rw [ih, ec]
    unfold sgn1
    generalize chgN (fun i => rowK a b i 0) N = C
    have h1 := sign_two (h N (by omega))
    have h2 := sign_two (h (N + 1) (by omega))
    rcases h1 with h1 | h1 <;> rcases h2 with h2 | h2 <;> rw [h1, h2]
    · rw [if_pos rfl]; omega
    · rw [if_neg (by decide)]; omega
    · rw [if_neg (by decide)]; omega
    · rw [if_pos rfl]; omega

/-- Where the column is told, its changes of sign are the roots to the right, and none is in the middle. -/
theorem cnt_routh {p : Nat → Rat} {N : Nat} {a b c : Int} (hp : PL p (N + 1)) (hz : ∀ i, 1 ≤ i → i ≤ N → fstR p (N + 1) i ≠ 0) (h : CntV p (N + 1) a b c) : b = 0 ∧ c = (chgN (fstR p (N + 1)) N : Nat) ∧ a = (N : Int) - (chgN (fstR p (N + 1)) N : Nat) := by
  obtain ⟨h1, h2, h3⟩ := cnt_regular hp hz h
  have h00 : fstR p (N + 1) 0 ≠ 0 := by
    show evP p (N + 1) 0 ≠ 0
    unfold evP
    rw [if_pos (by omega)]
    exact hp.2 (by omega)
  have hu := upS_chg (evP p (N + 1)) (evP p N) N (fun i hi => by
    rcases Nat.eq_zero_or_pos i with h4 | h4
    · subst h4; exact h00
    · exact hz i h4 hi)
  have e : (fun i => rowK (evP p (N + 1)) (evP p N) i 0) = fstR p (N + 1) := rfl
  rw [e] at hu
  rw [hu] at h1 h3
  have hb : ∀ n, chgN (fstR p (N + 1)) n ≤ n := by
    intro n
    induction n with
    | zero => exact Nat.le_refl _
    | succ n ih =>
      unfold chgN
      split <;> omega
  have hbN := hb N
  refine ⟨h2, ?_, ?_⟩
  · rw [h3, show (N : Int) - ((N : Int) - 2 * (chgN (fstR p (N + 1)) N : Nat)) = 2 * ((chgN (fstR p (N + 1)) N : Nat) : Int) by omega, Int.mul_tdiv_cancel_left _ (by decide)]
  · rw [h1, show (N : Int) + ((N : Int) - 2 * (chgN (fstR p (N + 1)) N : Nat)) = 2 * ((N : Int) - (chgN (fstR p (N + 1)) N : Nat)) by omega, Int.mul_tdiv_cancel_left _ (by decide)]
end Go.Proofs.YtbihhkcgiepgaaeGreatDoor

namespace Go.Proofs.YtbihhkcgiepgaaeGreatDoor
open Go.RowKit
set_option linter.unusedVariables false
set_option linter.unusedSimpArgs false

theorem ownT_nil {w : World} {base : Nat} : OwnT w base (.slice none 0 0) [] := ⟨ownG_nil, NoWv.nil _⟩

def TxsR (w : World) (n : Nat) (p : Nat → Rat) (ov iv : Value) (wr : World) : Prop :=
  ∃ i : Nat, i ≤ n ∧ iv = .int .i64 i ∧ OwnT wr w.heap.size ov (textsL p i) ∧ w.grownBy wr none

set_option maxHeartbeats 4000000 in
set_option maxRecDepth 10000 in
theorem pTexts_at (x : Value) (n : Nat) (p : Nat → Rat) (L : Nat) (w : World) (hx : Rw w x n p L) (hn : n ≤ 3000) (hL : L ≤ 100000000000) (ht : Tab10 w) :
    Calls Tryz.prog 72 #[x] w fun e w' => ∃ v, e = .returned v ∧ OwnT w' w.heap.size v (textsL p n) ∧ w.grownBy w' none := by
  have HX := hide hx
  have HT := hide ht
  obtain ⟨xo, xc, rfl, hc, hm, _⟩ := hx
  unfold maxLen at hm
  clear ht
  go_enter Tryz.func72, Tryz.ntmps72
  go_wp2
  go_loopw [3, 8] (fun ov iv wr => Hid (TxsR w n p ov iv wr)) (fun _ iv _ => n - (intOf iv).toNat)
  case atStart => exact ⟨0, by omega, rfl, ownT_nil, gr_refl _ _⟩
  case round =>
    obtain ⟨i, hi, rfl, l1, l2⟩ := hrel.out
    have L1 := hide l1
    have L2 := hide l2
    obtain ⟨oo, oc, eo⟩ := l1.1.shape
    subst eo
    clear l1 l2 hrel
    have hlen : Hid ((textsL p i).length = i) := textsL_length _ _
    rw [hlen.out]
    rw [hlen.out] at L1
    by_cases hlt : i < n
    · obtain ⟨ao, c, e, h1, h2, h3⟩ := HX.out
      simp only [Value.slice.injEq, true_and] at e
      obtain ⟨ex1, ex2⟩ := e
      obtain ⟨gx, ex3, hr⟩ := h3 (by omega)
      have hgl := hr.lt
      subst ex2 ex1 ex3
      obtain ⟨uo, ul, uc, do_, dl, dc, c0, c1, c2, c3, _⟩ := (hr.keep0 L2.out).at i hlt
      have C3 := hide c3
      clear c3 hr h1 h2 h3
      obtain ⟨q, hq⟩ : ∃ q, q = p i := ⟨_, rfl⟩
      rw [← hq] at c0 C3
      have HQ := hide hq
      clear hq
      go_upto_region 5 with fail
      obtain ⟨w2, hw2⟩ : ∃ w2, w2 = wr.alloc (Obj.cells #[.bool (rB q), .slice uo ul uc, .slice do_ dl dc] 107) := ⟨_, rfl⟩
      have G2 : Hid (wr.grownBy w2 none) := by rw [hw2]; exact gr_alloc (gr_refl _ _) _
      have XC : Hid (w2.cell? ⟨wr.heap.size, 0, none⟩ = some (.bool (rB q)) ∧ w2.cell? ⟨wr.heap.size, 1, none⟩ = some (.slice uo ul uc) ∧ w2.cell? ⟨wr.heap.size, 2, none⟩ = some (.slice do_ dl dc)) := by
        have hg : (wr.alloc (Obj.cells #[.bool (rB q), .slice uo ul uc, .slice do_ dl dc] 107)).grownBy w2 none := by rw [← hw2]; exact gr_refl _ _
        exact box_three hg
      rw [← hw2]
      clear hw2 c0 c1 c2
      obtain ⟨x0, x1, x2⟩ := XC.out
      go_wp2_with fail
      refine (fQ_at _ q L w2 (C3.out.keep0 G2.out) hL (HT.out.keep0 (gr_none L2.out G2.out))).mono ?_
      rintro e w7 ⟨rfl, g7⟩
      have G7 := hide (gr_none G2.out g7)
      clear g7 x0 x1 x2
      have hsz : w.heap.size ≤ w7.heap.size := Nat.le_trans L2.out.size G7.out.size
      have GA : Hid (wr.grownBy (w7.alloc (Obj.cells #[sv ⟨(qtext q).toArray⟩] 24)) none) := gr_alloc G7.out _
      go_wp2_with (at_builtin; refine wpList_append_t _ rfl _ _ 22 rfl w.heap.size Tryz.underlying22 Tryz.infoQ _ (textsL p i) rfl (L1.out.keep0 GA.out) w7.heap.size ⟨(qtext q).toArray⟩ rfl (by go_simp) (by rw [hlen.out]; omega) (by simp; omega) ?_)
      intro ao8 cap8 w8 ho hg hwk
      have HO : Hid (OwnT w8 w.heap.size (.slice ao8 ((textsL p i).length + 1) cap8) (textsL p (i + 1))) := by
        rw [textsL_succ, ← HQ.out]
        exact ho
      have G8 : Hid (w.grownBy w8 none) := by
        refine gr_trans (r := none) (gr_none L2.out GA.out) hg (fun _ _ e => e) (fun b hb e => ?_)
        have := (L1.out.1.fresh b e.symm).1
        omega
      clear ho hg hwk
      go_wp2
      go_roundw
      case rel => exact ⟨i + 1, by omega, by go_num, HO.out, G8.out⟩
      case measure => simp [intOf]; omega
    · obtain rfl : i = n := by omega
      go_wp2
      go_ret
      exact ⟨_, rfl, L1.out, L2.out⟩
end Go.Proofs.YtbihhkcgiepgaaeGreatDoor
