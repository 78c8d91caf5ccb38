/- What the reference looks for: a prefix and a unit. -/
import Derived.Test.YtgdiepfknfnmjaaGreatDoorUParse2
import Derived.Test.YtgdiepfknfnmjaaGreatDoorMU1
import Derived.Deep.RegionHeld3
import Derived.Deep.DeepCutAuto
namespace Go.Proofs.YtgdiepfknfnmjaaGreatDoor
open Go.RowKit
set_option linter.unusedVariables false

/-- The reference's table of powers. -/
def pwL : List (List UInt8 × Int) := ([], 0) :: pfxL

/-- An entry of it fits. -/
def Fits (l : List UInt8) (plain : Bool) (p : List UInt8) (e : Int) (u : List UInt8) : Prop :=
  (p, e) ∈ pwL ∧ Lib.hasPrefix l p = true ∧ (p.isEmpty = plain) ∧ unitR (Lib.trimPrefix l p) = some u

theorem trim_of {l p : List UInt8} (h : Lib.hasPrefix l p = true) : Lib.trimPrefix l p = l.drop p.length := by rw [Lib.trimPrefix, if_pos h]

theorem pfx_mem {p : List UInt8} {e : Int} (h : (p, e) ∈ pfxL) (l : List UInt8) (hp : Lib.hasPrefix l p = true) : pfxS l = some (e, p.length) := by
  have hpre : p <+: l := by
    unfold Lib.hasPrefix at hp
    exact List.isPrefixOf_iff_prefix.1 hp
  obtain ⟨r, rfl⟩ := hpre
  simp only [pfxL, List.mem_cons, Prod.mk.injEq, List.not_mem_nil, or_false] at h
  rcases h with ⟨rfl, rfl⟩ | ⟨rfl, rfl⟩ | ⟨rfl, rfl⟩ | ⟨rfl, rfl⟩ | ⟨rfl, rfl⟩ | ⟨rfl, rfl⟩ | ⟨rfl, rfl⟩ | ⟨rfl, rfl⟩ | ⟨rfl, rfl⟩ | ⟨rfl, rfl⟩ | ⟨rfl, rfl⟩ <;> (cases r <;> first | rfl | (simp [pfxS, pfxN]))

theorem byte_is {b : UInt8} {n : Nat} (hn : n < 256) (h : b.toNat = n) : b = UInt8.ofNat n := by
  apply UInt8.toNat_inj.1
  rw [h, UInt8.toNat_ofNat']
  omega

theorem pfxN_mem {n : Nat} {b : UInt8} {b1 : Nat} {e : Int} {k : Nat} (h : pfxN n b.toNat b1 = some (e, k)) : (k = 1 ∧ ([b], e) ∈ pfxL) ∨ (k = 2 ∧ 1 < n ∧ ((b = 194 ∧ b1 = 181) ∨ (b = 206 ∧ b1 = 188)) ∧ e = -6) := by
  unfold pfxN at h
  by_cases h1 : b.toNat = 102
  · rw [if_pos h1] at h; simp only [Option.some.injEq, Prod.mk.injEq] at h; obtain ⟨rfl, rfl⟩ := h; rw [byte_is (by decide) h1]; exact .inl ⟨rfl, by decide⟩
  rw [if_neg h1] at h
  by_cases h1 : b.toNat = 112
  · rw [if_pos h1] at h; simp only [Option.some.injEq, Prod.mk.injEq] at h; obtain ⟨rfl, rfl⟩ := h; rw [byte_is (by decide) h1]; exact .inl ⟨rfl, by decide⟩
  rw [if_neg h1] at h
  by_cases h1 : b.toNat = 110
  · rw [if_pos h1] at h; simp only [Option.some.injEq, Prod.mk.injEq] at h; obtain ⟨rfl, rfl⟩ := h; rw [byte_is (by decide) h1]; exact .inl ⟨rfl, by decide⟩
  rw [if_neg h1] at h
  by_cases h1 : b.toNat = 117
  · rw [if_pos h1] at h; simp only [Option.some.injEq, Prod.mk.injEq] at h; obtain ⟨rfl, rfl⟩ := h; rw [byte_is (by decide) h1]; exact .inl ⟨rfl, by decide⟩
  rw [if_neg h1] at h
  by_cases h1 : b.toNat = 109
  · rw [if_pos h1] at h; simp only [Option.some.injEq, Prod.mk.injEq] at h; obtain ⟨rfl, rfl⟩ := h; rw [byte_is (by decide) h1]; exact .inl ⟨rfl, by decide⟩
  rw [if_neg h1] at h
  by_cases h1 : b.toNat = 107
  · rw [if_pos h1] at h; simp only [Option.some.injEq, Prod.mk.injEq] at h; obtain ⟨rfl, rfl⟩ := h; rw [byte_is (by decide) h1]; exact .inl ⟨rfl, by decide⟩
  rw [if_neg h1] at h
  by_cases h1 : b.toNat = 77
  · rw [if_pos h1] at h; simp only [Option.some.injEq, Prod.mk.injEq] at h; obtain ⟨rfl, rfl⟩ := h; rw [byte_is (by decide) h1]; exact .inl ⟨rfl, by decide⟩
  rw [if_neg h1] at h
  by_cases h1 : b.toNat = 71
  · rw [if_pos h1] at h; simp only [Option.some.injEq, Prod.mk.injEq] at h; obtain ⟨rfl, rfl⟩ := h; rw [byte_is (by decide) h1]; exact .inl ⟨rfl, by decide⟩
  rw [if_neg h1] at h
  by_cases h1 : b.toNat = 84
  · rw [if_pos h1] at h; simp only [Option.some.injEq, Prod.mk.injEq] at h; obtain ⟨rfl, rfl⟩ := h; rw [byte_is (by decide) h1]; exact .inl ⟨rfl, by decide⟩
  rw [if_neg h1] at h
  by_cases h1 : b.toNat = 194 ∧ 1 < n ∧ b1 = 181
  · rw [if_pos h1] at h; simp only [Option.some.injEq, Prod.mk.injEq] at h; obtain ⟨rfl, rfl⟩ := h
    exact .inr ⟨rfl, h1.2.1, .inl ⟨byte_is (by decide) h1.1, h1.2.2⟩, rfl⟩
  rw [if_neg h1] at h
  by_cases h1 : b.toNat = 206 ∧ 1 < n ∧ b1 = 188
  · rw [if_pos h1] at h; simp only [Option.some.injEq, Prod.mk.injEq] at h; obtain ⟨rfl, rfl⟩ := h
    exact .inr ⟨rfl, h1.2.1, .inr ⟨byte_is (by decide) h1.1, h1.2.2⟩, rfl⟩
  rw [if_neg h1] at h
  simp at h

theorem pfx_of {l : List UInt8} {e : Int} {k : Nat} (h : pfxS l = some (e, k)) : ∃ p, (p, e) ∈ pfxL ∧ Lib.hasPrefix l p = true ∧ k = p.length := by
  match l, h with
  | [], h => simp [pfxS] at h
  | [b], h =>
    have h2 : pfxN 1 b.toNat 0 = some (e, k) := h
    rcases pfxN_mem h2 with ⟨rfl, hm⟩ | ⟨_, hn, _⟩
    · exact ⟨[b], hm, by simp [Lib.hasPrefix, List.isPrefixOf], rfl⟩
    · omega
  | b :: c :: r, h =>
    have h2 : pfxN (r.length + 2) b.toNat c.toNat = some (e, k) := h
    rcases pfxN_mem h2 with ⟨rfl, hm⟩ | ⟨rfl, hn, hb, rfl⟩
    · exact ⟨[b], hm, by simp [Lib.hasPrefix, List.isPrefixOf], rfl⟩
    · rcases hb with ⟨rfl, hc⟩ | ⟨rfl, hc⟩
      · have hc2 : c = 181 := byte_is (by decide) hc
        subst hc2
        exact ⟨[194, 181], by decide, by simp [Lib.hasPrefix, List.isPrefixOf], rfl⟩
      · have hc2 : c = 188 := byte_is (by decide) hc
        subst hc2
        exact ⟨[206, 188], by decide, by simp [Lib.hasPrefix, List.isPrefixOf], rfl⟩

theorem pfxL_ne {p : List UInt8} {e : Int} (h : (p, e) ∈ pfxL) : p.isEmpty = false := by
  simp only [pfxL, List.mem_cons, Prod.mk.injEq, List.not_mem_nil, or_false] at h
  rcases h with ⟨rfl, rfl⟩ | ⟨rfl, rfl⟩ | ⟨rfl, rfl⟩ | ⟨rfl, rfl⟩ | ⟨rfl, rfl⟩ | ⟨rfl, rfl⟩ | ⟨rfl, rfl⟩ | ⟨rfl, rfl⟩ | ⟨rfl, rfl⟩ | ⟨rfl, rfl⟩ | ⟨rfl, rfl⟩ <;> rfl

theorem fits_false {l p u : List UInt8} {e : Int} (h : Fits l false p e u) : endR l = some (e, u) := by
  obtain ⟨h1, h2, h3, h4⟩ := h
  have hm : (p, e) ∈ pfxL := by
    rcases List.mem_cons.1 h1 with h | h
    · simp only [Prod.mk.injEq] at h
      rw [h.1] at h3
      simp at h3
    · exact h
  rw [trim_of h2] at h4
  rw [endR, pfx_mem hm l h2]
  simp only
  rw [h4]

theorem fits_none {l : List UInt8} (h : ∀ p e u, ¬ Fits l false p e u) : endR l = (unitR l).map (fun u => (0, u)) := by
  rw [endR]
  cases hp : pfxS l with
  | none => rfl
  | some ek =>
    obtain ⟨e, k⟩ := ek
    obtain ⟨p, hm, hpre, rfl⟩ := pfx_of hp
    simp only
    cases hu : unitR (l.drop p.length) with
    | none => rfl
    | some u => exact absurd ⟨List.mem_cons_of_mem _ hm, hpre, pfxL_ne hm, by rw [trim_of hpre]; exact hu⟩ (h p e u)

theorem fits_true {l p u : List UInt8} {e : Int} (h : Fits l true p e u) : e = 0 ∧ unitR l = some u := by
  obtain ⟨h1, h2, h3, h4⟩ := h
  rcases List.mem_cons.1 h1 with h | h
  · simp only [Prod.mk.injEq] at h
    obtain ⟨rfl, rfl⟩ := h
    rw [trim_of h2] at h4
    exact ⟨rfl, h4⟩
  · rw [pfxL_ne h] at h3
    simp at h3

theorem fits_all {l : List UInt8} (h1 : ∀ p e u, ¬ Fits l false p e u) (h2 : ∀ p e u, ¬ Fits l true p e u) : endR l = none := by
  rw [fits_none h1]
  cases hu : unitR l with
  | none => rfl
  | some u =>
    exact absurd ⟨by decide, by simp [Lib.hasPrefix, List.isPrefixOf], rfl, by rw [Lib.trimPrefix, if_pos (by simp [Lib.hasPrefix, List.isPrefixOf])]; exact hu⟩ (h2 [] 0 u)
end Go.Proofs.YtgdiepfknfnmjaaGreatDoor

namespace Go.Proofs.YtgdiepfknfnmjaaGreatDoor
open Go.RowKit
set_option linter.unusedVariables false
set_option linter.unusedSimpArgs false

/-- |q|. -/
def absR (q : Rat) : Rat := if q < 0 then -q else q

theorem abs_parts (q : Rat) : rB (absR q) = false ∧ rN (absR q) = rN q ∧ (absR q).den = q.den := by
  unfold absR
  by_cases h : q < 0
  · rw [if_pos h]
    have hn : q.num < 0 := by
      rw [Rat.lt_iff] at h
      simpa using h
    refine ⟨?_, by simp [rN], rfl⟩
    unfold rB
    rw [Rat.neg_num]
    exact decide_eq_false (by omega)
  · rw [if_neg h]
    have hn : ¬ q.num < 0 := by
      rw [Rat.lt_iff] at h
      simpa using h
    exact ⟨decide_eq_false hn, rfl, rfl⟩

theorem FQ.abs {w : World} {u d : Value} {q : Rat} {L : Nat} (h : FQ w (.agg #[.bool (rB q), u, d]) q L) : FQ w (.agg #[.bool false, u, d]) (absR q) L := by
  obtain ⟨a1, a2, a3⟩ := abs_parts q
  obtain ⟨up, down, e, h1, h2, h3, h4⟩ := h
  simp only [Value.agg.injEq, Array.mk.injEq, List.cons.injEq, and_true, true_and] at e
  obtain ⟨rfl, rfl⟩ := e
  unfold FQ
  rw [a1, a2, a3]
  exact ⟨_, _, rfl, h1, h2, h3, by simp⟩

set_option maxHeartbeats 4000000 in
theorem fAbs_at (x : Value) (q : Rat) (L : Nat) (w : World) (hx : FQ w x q L) :
    Calls Tryz.prog 31 #[x] w fun e w' => FQE w (absR q) L e w' := by
  obtain ⟨uo, ul, uc, do_, dl, dc, rfl⟩ := hx.shape
  have HX := hide hx
  clear hx
  go_enter Tryz.func31, Tryz.ntmps31
  go_wp2
  refine bodyPost_ret (v := .agg #[.bool false, .slice uo ul uc, .slice do_ dl dc]) (by simp [results, Tryz.results31, go_sem]) rfl ?_
  exact ⟨_, rfl, (HX.out.keep0 (gr_alloc (gr_alloc (gr_refl _ _) _) _)).abs, gr_alloc (gr_alloc (gr_refl _ _) _) _⟩

/-- Where a number's prefix stands in the table. -/
def pfi (q : Rat) : Nat := if q = 0 then 4 else ((List.range 10).find? (fun i => decide ((10 : Rat) ^ (pwr i) ≤ q))).getD 9

theorem cmp_ge (p q : Rat) : (0 ≤ cmpR p q) ↔ q ≤ p := by
  unfold cmpR
  by_cases h : p < q
  · rw [if_pos h]
    have : ¬ q ≤ p := by rw [← Rat.not_lt]; simpa using h
    exact ⟨fun h => by omega, fun h => absurd h this⟩
  · rw [if_neg h]
    have h2 := Rat.not_lt.1 h
    split <;> exact ⟨fun _ => h2, fun _ => by omega⟩

theorem pwr_bd (i : Nat) (h : i < 10) : -15 ≤ pwr i ∧ pwr i ≤ 12 := by
  match i, h with
  | 0, _ | 1, _ | 2, _ | 3, _ | 4, _ | 5, _ | 6, _ | 7, _ | 8, _ | 9, _ => decide

/-- prefixOf, on its way. -/
def PofR (W : World) (q : Rat) (v : Value) (wr : World) : Prop :=
  ∃ i : Nat, i ≤ 10 ∧ v = .int .i64 (i : Int) ∧ W.grownBy wr none ∧ ∀ j, j < i → ¬ (10 : Rat) ^ (pwr j) ≤ q

theorem find_at (p : Nat → Bool) (n i : Nat) (hi : i < n) (h1 : p i = true) (h2 : ∀ j, j < i → p j = false) : (List.range n).find? p = some i := by
  rw [List.find?_range_eq_some]
  refine ⟨h1, by simpa using hi, ?_⟩
  intro j hj
  rw [h2 j hj]
  rfl

theorem pfi_some {q : Rat} {i : Nat} (hq : q ≠ 0) (hi : i < 10) (h1 : (10 : Rat) ^ (pwr i) ≤ q) (h2 : ∀ j, j < i → ¬ (10 : Rat) ^ (pwr j) ≤ q) : pfi q = i := by
  unfold pfi
  rw [if_neg hq, find_at _ 10 i hi (decide_eq_true h1) (fun j hj => decide_eq_false (h2 j hj))]
  rfl

theorem pfi_none {q : Rat} (hq : q ≠ 0) (h2 : ∀ j, j < 10 → ¬ (10 : Rat) ^ (pwr j) ≤ q) : pfi q = 9 := by
  unfold pfi
  rw [if_neg hq]
  have : (List.range 10).find? (fun i => decide ((10 : Rat) ^ (pwr i) ≤ q)) = none := by
    rw [List.find?_eq_none]
    intro j hj
    rw [List.mem_range] at hj
    simpa using h2 j hj
  rw [this]
  rfl

theorem pref_last (w : World) (h : PrefTab w) : w.cell? ⟨2, 18, none⟩ = some (.int .i32 102) ∧ w.cell? ⟨2, 19, none⟩ = some (.int .i64 (-15)) :=
  ⟨h 18 _ rfl, h 19 _ rfl⟩

set_option maxHeartbeats 8000000 in
set_option maxRecDepth 10000 in
theorem prefixOf_at (x : Value) (q : Rat) (L : Nat) (w : World) (hx : FQ w x q L) (hL : L ≤ 100000000) (hT : PrefTab w) :
    Calls Tryz.prog 30 #[x] w fun e w' => e = .returned (.agg #[.int .i32 (ltr (pfi q)), .int .i64 (pwr (pfi q))]) ∧ w.grownBy w' none := by
  obtain ⟨uo, ul, uc, do_, dl, dc, rfl⟩ := hx.shape
  have HX := hide hx
  have HT := hide hT
  obtain ⟨AG, hAG⟩ : ∃ AG, AG = prefL.toArray := ⟨_, rfl⟩
  have HAG := hide hAG
  have IX0 : ∀ i, i < 10 → ∀ W, (Instr.index 103 (.agg AG) (.int .i64 ((i : Nat) : Int))).run Tryz.prog W = .ok (.agg #[.int .i32 (ltr i), .int .i64 (pwr i)]) W := by rw [hAG]; exact pref_ix
  have IX := hide IX0
  clear IX0 hAG hT hx
  obtain ⟨W, hW⟩ : ∃ W, W = (w.alloc (Obj.cells #[.bool (rB q), .slice uo ul uc, .slice do_ dl dc] 45)).alloc (Obj.cells #[.int .i32 0, .int .i64 0] 70) := ⟨_, rfl⟩
  have GW : Hid (w.grownBy W none) := by rw [hW]; exact gr_alloc (gr_alloc (gr_refl _ _) _) _
  have CELLS : Hid (∀ wx, W.grownBy wx none → (wx.cell? ⟨w.heap.size, 0, none⟩ = some (.bool (rB q)) ∧ wx.cell? ⟨w.heap.size, 1, none⟩ = some (.slice uo ul uc) ∧ wx.cell? ⟨w.heap.size, 2, none⟩ = some (.slice do_ dl dc)) ∧ wx.cell? ⟨w.heap.size + 1, 0, none⟩ = some (.int .i32 0) ∧ wx.cell? ⟨w.heap.size + 1, 1, none⟩ = some (.int .i64 0) ∧ wx.frozen? ⟨w.heap.size + 1, 0, none⟩ = false ∧ wx.frozen? ⟨w.heap.size + 1, 1, none⟩ = false) := by
    intro wx hg
    rw [hW] at hg
    have a1 := box_three (gr_none (gr_alloc (gr_refl _ none) _) hg)
    have e : wx.heap[w.heap.size + 1]? = some (Obj.cells #[.int .i32 0, .int .i64 0] 70 (0, 0)) := by
      rw [hg.block (w.heap.size + 1) (by simp) (by simp)]
      have := heap_alloc_new (w.alloc (Obj.cells #[.bool (rB q), .slice uo ul uc, .slice do_ dl dc] 45)) (Obj.cells #[.int .i32 0, .int .i64 0] 70)
      rw [show (w.alloc (Obj.cells #[.bool (rB q), .slice uo ul uc, .slice do_ dl dc] 45)).heap.size = w.heap.size + 1 from by simp] at this
      exact this
    exact ⟨a1, by simp [World.cell?, e], by simp [World.cell?, e], by simp [World.frozen?, e], by simp [World.frozen?, e]⟩
  obtain ⟨⟨s0, s1, s2⟩, r0, r1, rf0, rf1⟩ := CELLS.out W (gr_refl _ _)
  have hne1 : ¬ w.heap.size + 1 = w.heap.size := by omega
  have hne2 : ¬ w.heap.size = w.heap.size + 1 := by omega
  go_enter Tryz.func30, Tryz.ntmps30
  go_wp2_with fail
  rw [← hW]
  refine (fSign_at _ q L W (HX.out.keep0 GW.out)).mono ?_
  rintro e w2 ⟨rfl, g2⟩
  obtain ⟨⟨a0, a1, a2⟩, b0, b1, bf0, bf1⟩ := CELLS.out w2 g2
  have G2 := hide g2
  clear g2 hW s0 s1 s2 r0 r1 rf0 rf1
  by_cases hq : q = 0
  · have hs : q.num.sign = 0 := by rw [hq]; rfl
    rw [hs]
    have HP : Hid (pfi q = 4) := by show _ = _; rw [pfi, if_pos hq]
    clear hs hq
    go_wp2
    refine bodyPost_ret (v := .agg #[.int .i32 (-1), .int .i64 0]) (by simp [results, Tryz.results30, go_sem, b0, b1]) rfl ?_
    rw [HP.out]
    exact ⟨rfl, gr_set (gr_set (gr_none GW.out G2.out) _ _ (by simp)) _ _ (by simp)⟩
  · have hs : (q.num.sign == 0) = false := by
      refine beq_eq_false_iff_ne.2 (fun e => hq ?_)
      exact Rat.num_eq_zero.1 (Int.sign_eq_zero_iff_zero.1 e)
    have HQ := hide hq
    clear hq
    go_wp2_with (refine wpList_load_mid rfl 103 _ rfl 2 0 rfl prefL _ ((HT.out.keep0 GW.out).keep0 G2.out) Tryz.underlying103 rfl pref_size ?_; rw [← HAG.out])
    go_wp2
    clear HAG a0 a1 a2 b0 b1 bf0 bf1
    go_loopw [10] (fun v wr => Hid (PofR W q v wr)) (fun v _ => 10 - (intOf v).toNat)
    case atStart => exact ⟨0, by omega, rfl, G2.out, fun j hj => by omega⟩
    case round =>
      obtain ⟨i, hi, rfl, p1, p2⟩ := hrel.out
      have P1 := hide p1
      have P2 := hide p2
      obtain ⟨⟨a0, a1, a2⟩, b0, b1, bf0, bf1⟩ := CELLS.out wr p1
      clear p1 p2 hrel
      by_cases hlt : i < 10
      · have hix := IX.out i hlt
        obtain ⟨hp1, hp2⟩ := pwr_bd i hlt
        obtain ⟨a, ha⟩ : ∃ a, a = ltr i := ⟨_, rfl⟩
        obtain ⟨p, hp⟩ : ∃ p, p = pwr i := ⟨_, rfl⟩
        rw [← ha, ← hp] at hix
        rw [← hp] at hp1 hp2
        have HA := hide ha
        have HP := hide hp
        clear ha hp
        obtain ⟨gn, hgn⟩ : ∃ g, g = wr.heap.size := ⟨_, rfl⟩
        obtain ⟨W5, hW5⟩ : ∃ W5, W5 = wr.alloc (Obj.cells #[.int .i32 a, .int .i64 p] 70) := ⟨_, rfl⟩
        have G5 : Hid (W.grownBy W5 none) := by rw [hW5]; exact gr_alloc P1.out _
        have CN : Hid (∀ wx, W5.grownBy wx none → wx.cell? ⟨gn, 0, none⟩ = some (.int .i32 a) ∧ wx.cell? ⟨gn, 1, none⟩ = some (.int .i64 p)) := by
          intro wx hg
          rw [hW5] at hg
          have e : wx.heap[wr.heap.size]? = some (Obj.cells #[.int .i32 a, .int .i64 p] 70 (0, 0)) := by
            rw [hg.block wr.heap.size (by simp) (by simp)]
            exact heap_alloc_new wr _
          rw [hgn]
          exact ⟨by simp [World.cell?, e], by simp [World.cell?, e]⟩
        have hgn1 : w.heap.size + 1 < gn := by
          have h1 : (w.heap.size + 1) < W.heap.size := by
            obtain ⟨_, h, _⟩ := CELLS.out W (gr_refl _ _)
            rcases Nat.lt_or_ge (w.heap.size + 1) W.heap.size with h' | h'
            · exact h'
            · simp [World.cell?, Array.getElem?_eq_none h'] at h
          have h2 := P1.out.size
          omega
        have hne3 : ¬ gn = w.heap.size + 1 := by omega
        have hne4 : ¬ w.heap.size + 1 = gn := by omega
        have hne5 : ¬ gn = w.heap.size := by omega
        have hne6 : ¬ w.heap.size = gn := by omega
        have GC : W5.grownBy W5 none := gr_refl _ _
        clear a0 a1 a2 b0 b1 bf0 bf1
        obtain ⟨⟨a0, a1, a2⟩, b0, b1, bf0, bf1⟩ := CELLS.out W5 G5.out
        obtain ⟨n0, n1⟩ := CN.out W5 GC
        go_wp2
        rw [← hgn]
        try rw [← hW5]
        clear hW5 hgn hix
        go_cut [18] (fun s18 wx => Hid (W5.grownBy wx none ∧ s18 = .bool (decide (0 ≤ cmpR q ((10 : Rat) ^ p)))))
        case first =>
          go_region_held3 (fun w' => w'.cell? ⟨w.heap.size, 0, none⟩ = some (.bool (rB q)) ∧ w'.cell? ⟨w.heap.size, 1, none⟩ = some (.slice uo ul uc) ∧ w'.cell? ⟨w.heap.size, 2, none⟩ = some (.slice do_ dl dc) ∧ w'.cell? ⟨gn, 0, none⟩ = some (.int .i32 a) ∧ w'.cell? ⟨gn, 1, none⟩ = some (.int .i64 p)) (go_keep)
            (first | (go_at_call 19; refine (ten_at p _ (by omega) (by omega)).mono ?_; rintro e wa ⟨tv, rfl, t1, t2⟩; obtain ⟨to1, tl1, tc1, to2, tl2, tc2, rfl⟩ := t1.shape; have GC : W5.grownBy wa none := gr_none (by first | exact GC | exact gr_none GC (gr_d _) | exact gr_none GC gr_d1) t2; obtain ⟨⟨k0, k1, k2⟩, k3, k4, k5, k6⟩ := CELLS.out wa (gr_none G5.out GC); obtain ⟨k7, k8⟩ := CN.out wa GC) | (go_at_call 76; refine (fCompare_at _ _ q ((10 : Rat) ^ p) L _ _ (HX.out.keep0 (gr_none GW.out (gr_none G5.out (by first | exact GC | exact gr_none GC (gr_d _) | exact gr_none GC gr_d1)))) (t1.keep0 (by first | exact gr_refl _ _ | exact gr_d _ | exact gr_d1)) (by omega)).mono ?_; rintro e wb ⟨rfl, m2⟩; have GC : W5.grownBy wb none := gr_none (by first | exact GC | exact gr_none GC (gr_d _) | exact gr_none GC gr_d1) m2; obtain ⟨⟨k0, k1, k2⟩, k3, k4, k5, k6⟩ := CELLS.out wb (gr_none G5.out GC); obtain ⟨k7, k8⟩ := CN.out wb GC))
          all_goals
            go_wp2_with fail
            go_meet
            exact ⟨(by first | exact GC | exact gr_none GC (gr_d _) | exact gr_none GC gr_d1), by first | rfl | simp⟩
        case rest =>
          obtain ⟨hG, rfl⟩ := hcut.out
          have HG := hide hG
          clear hcut a0 a1 a2 b0 b1 bf0 bf1 n0 n1 GC
          obtain ⟨⟨a0, a1, a2⟩, b0, b1, bf0, bf1⟩ := CELLS.out wc (gr_none G5.out hG)
          obtain ⟨n0, n1⟩ := CN.out wc hG
          clear hG
          by_cases hge : 0 ≤ cmpR q ((10 : Rat) ^ p)
          · rw [decide_eq_true hge]
            have HF : Hid (pfi q = i) := pfi_some HQ.out hlt (by rw [← HP.out]; exact (cmp_ge q _).1 hge) P2.out
            clear hge
            go_wp2
            refine bodyPost_ret (v := .agg #[.int .i32 a, .int .i64 p]) (by simp [results, Tryz.results30, go_sem, b0, b1]) rfl ?_
            rw [HF.out, ← HA.out, ← HP.out]
            exact ⟨rfl, gr_set (gr_set (gr_none GW.out (gr_none G5.out HG.out)) _ _ (by simp)) _ _ (by simp)⟩
          · rw [decide_eq_false hge]
            have HGE := hide hge
            clear hge
            go_wp2
            go_roundw
            case rel =>
              refine ⟨i + 1, by omega, by go_num, gr_none G5.out HG.out, fun j hj => ?_⟩
              by_cases e : j = i
              · subst e
                rw [← HP.out]
                exact fun h => HGE.out ((cmp_ge q _).2 h)
              · exact P2.out j (by omega)
            case measure => simp [intOf]; omega
      · obtain rfl : i = 10 := by omega
        obtain ⟨l1, l2⟩ := pref_last wr ((HT.out.keep0 GW.out).keep0 P1.out)
        have HF := hide (pfi_none HQ.out P2.out)
        go_wp2
        refine bodyPost_ret (v := .agg #[.int .i32 102, .int .i64 (-15)]) (by simp [results, Tryz.results30, go_sem, b0, b1]) rfl ?_
        rw [HF.out]
        exact ⟨rfl, gr_set (gr_set (gr_none GW.out P1.out) _ _ (by simp)) _ _ (by simp)⟩
end Go.Proofs.YtgdiepfknfnmjaaGreatDoor

namespace Go.Proofs.YtgdiepfknfnmjaaGreatDoor
open Go.RowKit
set_option linter.unusedVariables false
set_option linter.unusedSimpArgs false

/-- A prefix, told. -/
def ptx (i : Nat) : List UInt8 := [[84], [71], [77], [107], [], [109], [194, 181], [110], [112], [102]].getD i []

set_option maxHeartbeats 1000000 in
theorem ptext0 (z : Int) (w : World) : Calls Tryz.prog 34 #[.agg #[.int .i32 84, .int .i64 z]] w fun e w' => e = .returned (.string ⟨#[84]⟩) ∧ w.grownBy w' none := by
  have hcv : ∀ W, (convert 21 9 (.int .i32 84)).run Tryz.prog W = .ok (.string ⟨#[84]⟩) W := fun W => by kernel_rfl
  go_enter Tryz.func34, Tryz.ntmps34
  go_wp2
  go_ret
  exact ⟨rfl, gr_alloc (gr_refl _ _) _⟩

set_option maxHeartbeats 1000000 in
theorem ptext1 (z : Int) (w : World) : Calls Tryz.prog 34 #[.agg #[.int .i32 71, .int .i64 z]] w fun e w' => e = .returned (.string ⟨#[71]⟩) ∧ w.grownBy w' none := by
  have hcv : ∀ W, (convert 21 9 (.int .i32 71)).run Tryz.prog W = .ok (.string ⟨#[71]⟩) W := fun W => by kernel_rfl
  go_enter Tryz.func34, Tryz.ntmps34
  go_wp2
  go_ret
  exact ⟨rfl, gr_alloc (gr_refl _ _) _⟩

set_option maxHeartbeats 1000000 in
theorem ptext2 (z : Int) (w : World) : Calls Tryz.prog 34 #[.agg #[.int .i32 77, .int .i64 z]] w fun e w' => e = .returned (.string ⟨#[77]⟩) ∧ w.grownBy w' none := by
  have hcv : ∀ W, (convert 21 9 (.int .i32 77)).run Tryz.prog W = .ok (.string ⟨#[77]⟩) W := fun W => by kernel_rfl
  go_enter Tryz.func34, Tryz.ntmps34
  go_wp2
  go_ret
  exact ⟨rfl, gr_alloc (gr_refl _ _) _⟩

set_option maxHeartbeats 1000000 in
theorem ptext3 (z : Int) (w : World) : Calls Tryz.prog 34 #[.agg #[.int .i32 107, .int .i64 z]] w fun e w' => e = .returned (.string ⟨#[107]⟩) ∧ w.grownBy w' none := by
  have hcv : ∀ W, (convert 21 9 (.int .i32 107)).run Tryz.prog W = .ok (.string ⟨#[107]⟩) W := fun W => by kernel_rfl
  go_enter Tryz.func34, Tryz.ntmps34
  go_wp2
  go_ret
  exact ⟨rfl, gr_alloc (gr_refl _ _) _⟩

set_option maxHeartbeats 1000000 in
theorem ptext4 (z : Int) (w : World) : Calls Tryz.prog 34 #[.agg #[.int .i32 (-1), .int .i64 z]] w fun e w' => e = .returned (.string ⟨#[]⟩) ∧ w.grownBy w' none := by
  go_enter Tryz.func34, Tryz.ntmps34
  go_wp2
  go_ret
  exact ⟨rfl, gr_alloc (gr_refl _ _) _⟩

set_option maxHeartbeats 1000000 in
theorem ptext5 (z : Int) (w : World) : Calls Tryz.prog 34 #[.agg #[.int .i32 109, .int .i64 z]] w fun e w' => e = .returned (.string ⟨#[109]⟩) ∧ w.grownBy w' none := by
  have hcv : ∀ W, (convert 21 9 (.int .i32 109)).run Tryz.prog W = .ok (.string ⟨#[109]⟩) W := fun W => by kernel_rfl
  go_enter Tryz.func34, Tryz.ntmps34
  go_wp2
  go_ret
  exact ⟨rfl, gr_alloc (gr_refl _ _) _⟩

set_option maxHeartbeats 1000000 in
theorem ptext6 (z : Int) (w : World) : Calls Tryz.prog 34 #[.agg #[.int .i32 181, .int .i64 z]] w fun e w' => e = .returned (.string ⟨#[194, 181]⟩) ∧ w.grownBy w' none := by
  have hcv : ∀ W, (convert 21 9 (.int .i32 181)).run Tryz.prog W = .ok (.string ⟨#[194, 181]⟩) W := fun W => by kernel_rfl
  go_enter Tryz.func34, Tryz.ntmps34
  go_wp2
  go_ret
  exact ⟨rfl, gr_alloc (gr_refl _ _) _⟩

set_option maxHeartbeats 1000000 in
theorem ptext7 (z : Int) (w : World) : Calls Tryz.prog 34 #[.agg #[.int .i32 110, .int .i64 z]] w fun e w' => e = .returned (.string ⟨#[110]⟩) ∧ w.grownBy w' none := by
  have hcv : ∀ W, (convert 21 9 (.int .i32 110)).run Tryz.prog W = .ok (.string ⟨#[110]⟩) W := fun W => by kernel_rfl
  go_enter Tryz.func34, Tryz.ntmps34
  go_wp2
  go_ret
  exact ⟨rfl, gr_alloc (gr_refl _ _) _⟩

set_option maxHeartbeats 1000000 in
theorem ptext8 (z : Int) (w : World) : Calls Tryz.prog 34 #[.agg #[.int .i32 112, .int .i64 z]] w fun e w' => e = .returned (.string ⟨#[112]⟩) ∧ w.grownBy w' none := by
  have hcv : ∀ W, (convert 21 9 (.int .i32 112)).run Tryz.prog W = .ok (.string ⟨#[112]⟩) W := fun W => by kernel_rfl
  go_enter Tryz.func34, Tryz.ntmps34
  go_wp2
  go_ret
  exact ⟨rfl, gr_alloc (gr_refl _ _) _⟩

set_option maxHeartbeats 1000000 in
theorem ptext9 (z : Int) (w : World) : Calls Tryz.prog 34 #[.agg #[.int .i32 102, .int .i64 z]] w fun e w' => e = .returned (.string ⟨#[102]⟩) ∧ w.grownBy w' none := by
  have hcv : ∀ W, (convert 21 9 (.int .i32 102)).run Tryz.prog W = .ok (.string ⟨#[102]⟩) W := fun W => by kernel_rfl
  go_enter Tryz.func34, Tryz.ntmps34
  go_wp2
  go_ret
  exact ⟨rfl, gr_alloc (gr_refl _ _) _⟩

theorem ptext_at (i : Nat) (hi : i < 10) (z : Int) (w : World) : Calls Tryz.prog 34 #[.agg #[.int .i32 (ltr i), .int .i64 z]] w fun e w' => e = .returned (.string ⟨(ptx i).toArray⟩) ∧ w.grownBy w' none := by
  match i, hi with
  | 0, _ => exact ptext0 z w
  | 1, _ => exact ptext1 z w
  | 2, _ => exact ptext2 z w
  | 3, _ => exact ptext3 z w
  | 4, _ => exact ptext4 z w
  | 5, _ => exact ptext5 z w
  | 6, _ => exact ptext6 z w
  | 7, _ => exact ptext7 z w
  | 8, _ => exact ptext8 z w
  | 9, _ => exact ptext9 z w

theorem pfi_lt (q : Rat) : pfi q < 10 := by
  unfold pfi
  split
  · decide
  · cases h : (List.range 10).find? (fun i => decide ((10 : Rat) ^ (pwr i) ≤ q)) with
    | none => decide
    | some i =>
      have := List.mem_of_find?_eq_some h
      rw [List.mem_range] at this
      exact this

/-- A quantity, written: its text and what is wrong. -/
def printR (q : Rat) (u : List UInt8) : List UInt8 × Int :=
  if unitR u ≠ some u then ([], 3)
  else if (decAns (rN (q * (10 : Rat) ^ (-pwr (pfi (absR q))))) (q * (10 : Rat) ^ (-pwr (pfi (absR q)))).den 4000).2 = false then ([], 6)
  else ((if q < 0 then [45] else []) ++ (decAns (rN (q * (10 : Rat) ^ (-pwr (pfi (absR q))))) (q * (10 : Rat) ^ (-pwr (pfi (absR q)))).den 4000).1 ++ (ptx (pfi (absR q)) ++ u), 0)

def priV (r : List UInt8 × Int) : Value := .tuple #[.string ⟨r.1.toArray⟩, .int .i64 r.2]

theorem ptx_len (i : Nat) (h : i < 10) : (ptx i).length ≤ 2 := by
  match i, h with
  | 0, _ | 1, _ | 2, _ | 3, _ | 4, _ | 5, _ | 6, _ | 7, _ | 8, _ | 9, _ => decide

theorem unit_odd {l v : List UInt8} (h : unitR l = some v) (hne : v ≠ l) : l = [226, 132, 166] ∧ v = [206, 169] := by
  unfold unitR at h
  split at h
  · simp only [Option.some.injEq] at h
    exact absurd h.symm hne
  · split at h
    · rename_i e
      simp only [Option.some.injEq] at h
      exact ⟨e, h.symm⟩
    · simp at h

theorem unit_len {l : List UInt8} (h : unitR l = some l) : l.length ≤ 2 := by
  unfold unitR at h
  split at h
  · rename_i e
    rcases e with e | e | e | e | e | e | e | e | e | e <;> rw [e] <;> decide
  · split at h
    · rename_i e
      rw [e] at h
      exact absurd h (by decide)
    · simp at h

theorem dec_ok {n d most : Nat} (h : (decAns n d most).2 = true) : (decAns n d most).1.length ≤ most := by
  unfold decAns at h ⊢
  simp only at h ⊢
  split at h
  · simp at h
  · rename_i e
    rw [if_neg e]
    simp only
    omega

set_option maxHeartbeats 8000000 in
set_option maxRecDepth 10000 in
theorem print_bad (s u : ByteArray) (w : World) (h : unitR u.data.toList ≠ some u.data.toList) :
    Calls Tryz.prog 8 #[.string s, .string u] w fun e w' => e = .returned (priV ([], 3)) ∧ w.grownBy w' none := by
  cases hu : unitR u.data.toList with
  | none =>
    clear h
    go_enter Tryz.func8, Tryz.ntmps8
    go_wp2_with fail
    refine (readUnit_at u _).mono ?_
    rintro e w1 ⟨rfl, rfl⟩
    rw [UnitE, hu]
    clear hu
    go_wp2
    go_ret2
    exact ⟨rfl, gr_refl _ _⟩
  | some v =>
    obtain ⟨e1, e2⟩ := unit_odd hu (fun e => h (by rw [hu, e]))
    have := bytes_eq e1
    subst this
    clear h hu e1 e2
    go_enter Tryz.func8, Tryz.ntmps8
    go_wp2_with fail
    refine (readUnit_at _ _).mono ?_
    rintro e w1 ⟨rfl, rfl⟩
    rw [show UnitE (⟨#[226, 132, 166]⟩ : ByteArray).data.toList = .returned (.tuple #[.string ⟨#[206, 169]⟩, .bool true]) from rfl]
    go_wp2
    go_ret2
    exact ⟨rfl, gr_refl _ _⟩

set_option maxHeartbeats 8000000 in
set_option maxRecDepth 10000 in
theorem print_good (s u : ByteArray) (m : Int) (w : World) (hs : s.size ≤ 5000000) (hT : PTabs w m) (h : unitR u.data.toList = some u.data.toList) :
    Calls Tryz.prog 8 #[.string s, .string u] w fun e w' => e = .returned (priV (printR (ofR s.data.toList) u.data.toList)) ∧ w.grownBy w' none := by
  have HT := hide hT
  have hul : u.size ≤ 2 := by rw [Lib.size_eq]; exact unit_len h
  have HU := hide h
  obtain ⟨q, hq⟩ : ∃ q, q = ofR s.data.toList := ⟨_, rfl⟩
  rw [← hq]
  have HQ := hide hq
  have hue : UnitE u.data.toList = .returned (.tuple #[.string u, .bool true]) := by rw [UnitE, h]
  have HUE := hide hue
  clear hT h hq hue
  go_enter Tryz.func8, Tryz.ntmps8
  go_wp2_with fail
  refine (readUnit_at u _).mono ?_
  rintro e w1 ⟨rfl, hw1⟩
  rw [hw1, HUE.out]
  clear hw1
  go_wp2_with fail
  refine (qOf_at s m _ (by omega) HT.out.l).mono ?_
  rintro e w2 ⟨fv, rfl, f1, f2⟩
  rw [← HQ.out] at f1
  obtain ⟨uo, ul, uc, do_, dl, dc, rfl⟩ := f1.shape
  obtain ⟨g1, hg1⟩ : ∃ g, g = w2.heap.size := ⟨_, rfl⟩
  obtain ⟨W3, hW3⟩ : ∃ W3, W3 = w2.alloc (Obj.cells #[.bool (rB q), .slice uo ul uc, .slice do_ dl dc] 45) := ⟨_, rfl⟩
  have G3 : Hid (w.grownBy W3 none) := by rw [hW3]; exact gr_alloc f2 _
  have C3 : Hid (∀ wx, W3.grownBy wx none → wx.cell? ⟨g1, 0, none⟩ = some (.bool (rB q)) ∧ wx.cell? ⟨g1, 1, none⟩ = some (.slice uo ul uc) ∧ wx.cell? ⟨g1, 2, none⟩ = some (.slice do_ dl dc)) := by
    intro wx hg
    rw [hW3] at hg
    rw [hg1]
    exact box_three hg
  have F3 : Hid (FQ W3 (.agg #[.bool (rB q), .slice uo ul uc, .slice do_ dl dc]) q (s.size + 1)) := by rw [hW3]; exact f1.keep0 (gr_alloc (gr_refl _ _) _)
  obtain ⟨s0, s1, s2⟩ := C3.out W3 (gr_refl _ _)
  clear f1 f2
  go_wp2_with fail
  rw [← hg1, ← hW3]
  clear hg1 hW3
  refine (fAbs_at _ q _ W3 F3.out).mono ?_
  rintro e w4 ⟨av, rfl, a1, a2⟩
  obtain ⟨ao, al, ac, bo, bl, bc, rfl⟩ := a1.shape
  have A1 := hide a1
  have A2 := hide a2
  clear a1 a2
  go_wp2_with fail
  refine (prefixOf_at _ (absR q) _ w4 A1.out (by omega) ((HT.out.keep0 G3.out).keep0 A2.out).p).mono ?_
  rintro e w5 ⟨rfl, b2⟩
  obtain ⟨i, hi⟩ : ∃ i, i = pfi (absR q) := ⟨_, rfl⟩
  have hi10 : i < 10 := by rw [hi]; exact pfi_lt _
  rw [← hi]
  have HI := hide hi
  obtain ⟨a, ha⟩ : ∃ a, a = ltr i := ⟨_, rfl⟩
  obtain ⟨p, hp⟩ : ∃ p, p = pwr i := ⟨_, rfl⟩
  obtain ⟨hp1, hp2⟩ := pwr_bd i hi10
  rw [← hp] at hp1 hp2
  rw [← ha, ← hp]
  have HA := hide ha
  have HP := hide hp
  obtain ⟨g2, hg2⟩ : ∃ g, g = w5.heap.size := ⟨_, rfl⟩
  obtain ⟨W5, hW5⟩ : ∃ W5, W5 = w5.alloc (Obj.cells #[.int .i32 a, .int .i64 p] 70) := ⟨_, rfl⟩
  have G35 : Hid (W3.grownBy W5 none) := by rw [hW5]; exact gr_alloc (gr_none A2.out b2) _
  have G5 : Hid (w.grownBy W5 none) := gr_none G3.out G35.out
  have CELLS : Hid (∀ wx, W5.grownBy wx none → wx.cell? ⟨g1, 0, none⟩ = some (.bool (rB q)) ∧ wx.cell? ⟨g1, 1, none⟩ = some (.slice uo ul uc) ∧ wx.cell? ⟨g1, 2, none⟩ = some (.slice do_ dl dc) ∧ wx.cell? ⟨g2, 0, none⟩ = some (.int .i32 a) ∧ wx.cell? ⟨g2, 1, none⟩ = some (.int .i64 p)) := by
    intro wx hg
    obtain ⟨z0, z1, z2⟩ := C3.out wx (gr_none G35.out hg)
    rw [hW5] at hg
    have e : wx.heap[w5.heap.size]? = some (Obj.cells #[.int .i32 a, .int .i64 p] 70 (0, 0)) := by
      rw [hg.block w5.heap.size (by simp) (by simp)]
      exact heap_alloc_new w5 _
    rw [hg2]
    exact ⟨z0, z1, z2, by simp [World.cell?, e], by simp [World.cell?, e]⟩
  have FX := hide (F3.out.keep0 G35.out)
  have GC : W5.grownBy W5 none := gr_refl _ _
  clear s0 s1 s2
  obtain ⟨s0, s1, s2, s3, s4⟩ := CELLS.out W5 GC
  clear b2 ha hp hi
  go_wp2
  rw [← hg2]
  try rw [← hW5]
  clear hg2 hW5
  go_cut [10, 11] (fun s10 s11 wx => Hid (W5.grownBy wx none ∧ s10 = .string ⟨(decAns (rN (q * (10 : Rat) ^ (-p))) (q * (10 : Rat) ^ (-p)).den 4000).1.toArray⟩ ∧ s11 = .bool (decAns (rN (q * (10 : Rat) ^ (-p))) (q * (10 : Rat) ^ (-p)).den 4000).2))
  case first =>
    go_region_held3 (fun w' => w'.cell? ⟨g1, 0, none⟩ = some (.bool (rB q)) ∧ w'.cell? ⟨g1, 1, none⟩ = some (.slice uo ul uc) ∧ w'.cell? ⟨g1, 2, none⟩ = some (.slice do_ dl dc) ∧ w'.cell? ⟨g2, 0, none⟩ = some (.int .i32 a) ∧ w'.cell? ⟨g2, 1, none⟩ = some (.int .i64 p)) (go_keep)
      (first | (go_at_call 19; (first | rw [IntWalk.i64_in _ ⟨by omega, by omega⟩] | skip); refine (ten_at (-p) _ (by omega) (by omega)).mono ?_; rintro e wa ⟨tv, rfl, t1, t2⟩; obtain ⟨to1, tl1, tc1, to2, tl2, tc2, rfl⟩ := t1.shape; have GC : W5.grownBy wa none := gr_none (by first | exact GC | exact gr_none GC (gr_d _) | exact gr_none GC gr_d1) t2; obtain ⟨k0, k1, k2, k3, k4⟩ := CELLS.out wa GC) | (go_at_call 18; refine (qTimes_at _ _ q _ (s.size + 1) _ _ (FX.out.keep0 (by first | exact GC | exact gr_none GC (gr_d _) | exact gr_none GC gr_d1)) (t1.keep0 (by first | exact gr_refl _ _ | exact gr_d _ | exact gr_d1)) (by omega)).mono ?_; rintro e wb ⟨mv, rfl, m1, m2⟩; obtain ⟨mo1, ml1, mc1, mo2, ml2, mc2, rfl⟩ := m1.shape; have GC : W5.grownBy wb none := gr_none (by first | exact GC | exact gr_none GC (gr_d _) | exact gr_none GC gr_d1) m2; obtain ⟨k0, k1, k2, k3, k4⟩ := CELLS.out wb GC) | (go_at_call 32; refine (decimal_at _ _ _ 4000 _ (m1.keep0 (by first | exact gr_refl _ _ | exact gr_d _ | exact gr_d1)) (by omega) (by omega) (HT.out.keep0 (gr_none G5.out (by first | exact GC | exact gr_none GC (gr_d _) | exact gr_none GC gr_d1))).t).mono ?_; rintro e wc3 ⟨rfl, m3⟩; have GC : W5.grownBy wc3 none := gr_none (by first | exact GC | exact gr_none GC (gr_d _) | exact gr_none GC gr_d1) m3; obtain ⟨k0, k1, k2, k3, k4⟩ := CELLS.out wc3 GC))
    all_goals
      go_wp2_with fail
      go_meet
      exact ⟨(by first | exact GC | exact gr_none GC (gr_d _) | exact gr_none GC gr_d1), rfl, rfl⟩
  case rest =>
    obtain ⟨hG, rfl, rfl⟩ := hcut.out
    have HG := hide hG
    clear hcut s0 s1 s2 s3 s4 GC
    obtain ⟨s0, s1, s2, s3, s4⟩ := CELLS.out wc hG
    clear hG
    have HPR : Hid (printR q u.data.toList = if (decAns (rN (q * (10 : Rat) ^ (-p))) (q * (10 : Rat) ^ (-p)).den 4000).2 = false then ([], 6) else ((if q < 0 then [45] else []) ++ (decAns (rN (q * (10 : Rat) ^ (-p))) (q * (10 : Rat) ^ (-p)).den 4000).1 ++ (ptx i ++ u.data.toList), 0)) := by
      show _ = _
      rw [printR, if_neg (fun hh => hh HU.out), ← HI.out, ← HP.out]
    obtain ⟨D, hD⟩ : ∃ D, D = decAns (rN (q * (10 : Rat) ^ (-p))) (q * (10 : Rat) ^ (-p)).den 4000 := ⟨_, rfl⟩
    have hDok := dec_ok (n := rN (q * (10 : Rat) ^ (-p))) (d := (q * (10 : Rat) ^ (-p)).den) (most := 4000)
    rw [← hD] at HPR hDok ⊢
    clear hD
    obtain ⟨T, ok⟩ := D
    simp only at HPR hDok ⊢
    cases ok with
    | false =>
      have HP2 := HPR.out
      rw [if_pos rfl] at HP2
      have HP3 := hide HP2
      clear HP2 hDok HPR
      go_wp2
      go_ret2
      rw [HP3.out]
      exact ⟨rfl, gr_none G5.out HG.out⟩
    | true =>
      have hTl := hDok rfl
      have HP2 := HPR.out
      rw [if_neg (by decide)] at HP2
      have HP3 := hide HP2
      clear HP2 hDok HPR
      go_wp2_with fail
      refine (fSign_at _ q _ _ (FX.out.keep0 HG.out)).mono ?_
      rintro e w7 ⟨rfl, g7⟩
      obtain ⟨t0, t1, t2, t3, t4⟩ := CELLS.out w7 (gr_none HG.out g7)
      have G7 := hide (gr_none G5.out (gr_none HG.out g7))
      clear s0 s1 s2 s3 s4 g7
      by_cases hneg : q < 0
      · have hn : q.num < 0 := by rw [Rat.lt_iff] at hneg; simpa using hneg
        rw [Int.sign_eq_neg_one_of_neg hn]
        have HNEG : Hid ((if q < 0 then ([45] : List UInt8) else []) = [45]) := if_pos hneg
        clear hneg hn
        obtain ⟨PT, hPT⟩ : ∃ l, l = ptx i := ⟨_, rfl⟩
        have hPTl : PT.length ≤ 2 := by rw [hPT]; exact ptx_len i hi10
        have HPT := hide hPT
        clear hPT
        go_wp2_with fail
        rw [HA.out]
        refine (ptext_at i hi10 p _).mono ?_
        rintro e w8 ⟨rfl, g8⟩
        rw [← HPT.out]
        have G8 := hide (gr_none G7.out g8)
        clear g8
        go_wp2
        go_ret2
        rw [HP3.out, ← HPT.out, HNEG.out]
        refine ⟨?_, G8.out⟩
        rw [priV]
        show Ending.returned (.tuple #[.string _, .int .i64 0]) = _
        congr 4
        first | rfl | (simp [ByteArray.ext_iff]; done) | skip
      · have hn : ¬ q.num < 0 := by rw [Rat.lt_iff] at hneg; simpa using hneg
        have hsg : 0 ≤ q.num.sign := by
          rcases Int.lt_trichotomy q.num 0 with h | h | h
          · exact absurd h hn
          · rw [h]; decide
          · rw [Int.sign_eq_one_of_pos h]; decide
        have HNEG : Hid ((if q < 0 then ([45] : List UInt8) else []) = []) := if_neg hneg
        clear hneg hsg
        obtain ⟨PT, hPT⟩ : ∃ l, l = ptx i := ⟨_, rfl⟩
        have hPTl : PT.length ≤ 2 := by rw [hPT]; exact ptx_len i hi10
        have HPT := hide hPT
        clear hPT
        go_wp2_with fail
        rw [HA.out]
        refine (ptext_at i hi10 p _).mono ?_
        rintro e w8 ⟨rfl, g8⟩
        rw [← HPT.out]
        have G8 := hide (gr_none G7.out g8)
        clear g8
        go_wp2
        go_ret2
        rw [HP3.out, ← HPT.out, HNEG.out]
        refine ⟨?_, G8.out⟩
        rw [priV]
        show Ending.returned (.tuple #[.string _, .int .i64 0]) = _
        congr 4
        first | rfl | (simp [ByteArray.ext_iff]; done) | skip
end Go.Proofs.YtgdiepfknfnmjaaGreatDoor

namespace Go.Proofs.YtgdiepfknfnmjaaGreatDoor
open Go.RowKit
set_option linter.unusedVariables false
set_option linter.unusedSimpArgs false

theorem dd1 (n : Nat) (h : n < 10) : Lib.decDigits n = [UInt8.ofNat (48 + n)] := Lib.decDigits_one h

theorem q4700 : qtext 4700 = [52, 55, 48, 48] := by
  have h1 : Lib.decDigits 4700 = [52, 55, 48, 48] := by
    rw [dec_step (by decide), show 4700 / 10 = 470 from rfl, dec_step (by decide), show 470 / 10 = 47 from rfl, dec_step (by decide), show 47 / 10 = 4 from rfl, dd1 4 (by decide)]
    rfl
  have hB : rB 4700 = false := by decide +kernel
  have hN : rN 4700 = 4700 := by decide +kernel
  have hD : (4700 : Rat).den = 1 := by decide +kernel
  rw [qtext, hB, hN, hD, h1]
  rfl

theorem parse_ex : parseR [52, 46, 55, 107, 206, 169] = ([52, 55, 48, 48], [206, 169], 0, 0) := by
  have h1 : parseR [52, 46, 55, 107, 206, 169] = parseEnd false [52] [55] [107, 206, 169] 3 := by rfl
  have h2 : endR [107, 206, 169] = some (3, [206, 169]) := by rfl
  have h3 : decQ false [52] [55] 3 = 4700 := by decide +kernel
  rw [h1, parseEnd, h2]
  simp only
  rw [h3, q4700]

theorem print_ex : printR (ofR [52, 55, 47, 49, 48, 48, 48, 48, 48, 48, 48]) [70] = ([52, 46, 55, 194, 181, 70], 0) := by
  have h1 : ofR [52, 55, 47, 49, 48, 48, 48, 48, 48, 48, 48] = mkRat 47 10000000 := by rfl
  have h2 : pfi (absR (mkRat 47 10000000)) = 6 := by decide +kernel
  have h3 : pwr 6 = -6 := by rfl
  have h4 : mkRat 47 10000000 * (10 : Rat) ^ (-(-6) : Int) = mkRat 47 10 := by decide +kernel
  have h5 : rN (mkRat 47 10) = 47 := by decide +kernel
  have h6 : (mkRat 47 10).den = 10 := by decide +kernel
  have h7 : decAns 47 10 4000 = ([52, 46, 55], true) := by
    have e1 : decHead 47 10 = [52, 46] := by
      rw [decHead, show 47 / 10 = 4 from rfl, dd1 4 (by decide)]
      rfl
    have e2 : decGo 10 4000 4000 [52, 46] 7 = ([52, 46, 55], 0) := by
      rw [show decGo 10 4000 4000 [52, 46] 7 = decGo 10 4000 (3999 + 1) [52, 46] 7 from rfl, decGo, if_neg (by decide), show 7 * 10 / 10 = 7 from rfl, show 7 * 10 % 10 = 0 from rfl, dd1 7 (by decide), decGo_stop (.inl rfl)]
      rfl
    rw [decAns, e1, show 47 % 10 = 7 from rfl, e2]
    rfl
  have h8 : ¬ mkRat 47 10000000 < 0 := by decide +kernel
  have h9 : unitR [70] = some [70] := by rfl
  rw [h1, printR, if_neg (fun h => h h9), h2, h3, h4, h5, h6, h7, if_neg (by decide), if_neg h8]
  rfl

set_option maxHeartbeats 4000000 in
theorem speaks_at (m : Int) (w : World) (hT : PTabs w m) :
    Calls Tryz.prog 5 #[] w fun e w' => e = .returned (.bool true) ∧ w.grownBy w' none := by
  have HT := hide hT
  clear hT
  go_enter Tryz.func5, Tryz.ntmps5
  go_wp2_with fail
  refine (parse_at ⟨#[52, 46, 55, 107, 206, 169]⟩ m _ (by decide) HT.out).mono ?_
  rintro e w1 ⟨rfl, g1⟩
  rw [show (⟨#[52, 46, 55, 107, 206, 169]⟩ : ByteArray).data.toList = [52, 46, 55, 107, 206, 169] from rfl, parse_ex, parV]
  obtain ⟨W, hW⟩ : ∃ W, W = w1.alloc (Obj.cells #[.int .i64 0, .int .i64 0] 26) := ⟨_, rfl⟩
  have GW : Hid (w.grownBy W none) := by rw [hW]; exact gr_alloc g1 _
  have FC : Hid (∀ wx, W.grownBy wx none → wx.cell? ⟨w1.heap.size, 0, none⟩ = some (.int .i64 0) ∧ wx.cell? ⟨w1.heap.size, 1, none⟩ = some (.int .i64 0)) := by
    intro wx hg
    rw [hW] at hg
    obtain ⟨a, b, c⟩ := flt_cells hg
    exact ⟨a, b⟩
  clear g1
  go_wp2_with fail
  rw [← hW]
  clear hW
  refine (print_good ⟨#[52, 55, 47, 49, 48, 48, 48, 48, 48, 48, 48]⟩ ⟨#[70]⟩ m W (by decide) (HT.out.keep0 GW.out) rfl).mono ?_
  rintro e w2 ⟨rfl, g2⟩
  rw [show (⟨#[52, 55, 47, 49, 48, 48, 48, 48, 48, 48, 48]⟩ : ByteArray).data.toList = [52, 55, 47, 49, 48, 48, 48, 48, 48, 48, 48] from rfl, show (⟨#[70]⟩ : ByteArray).data.toList = [70] from rfl, print_ex, priV]
  obtain ⟨a0, a1⟩ := FC.out w2 g2
  have G2 := hide (gr_none GW.out g2)
  clear g2
  go_wp2
  go_ret
  exact ⟨rfl, G2.out⟩
end Go.Proofs.YtgdiepfknfnmjaaGreatDoor
