/- synth: signed, realAlong; poly: NeverBelow, at 0 and at what is below 0. -/
import Derived.Test.YtbihhkcgiepgaaeGreatDoorPBar
import Derived.Test.YtbihhkcgiepgaaeGreatDoorMYc
import Derived.Test.YtbihhkcgiepgaaeGreatDoorPTimes
namespace Go.Proofs.YtbihhkcgiepgaaeGreatDoor
open Go.RowKit
set_option linter.unusedVariables false
set_option linter.unusedSimpArgs false

/-- A number times -1 to a power. -/
def sgnP (q : Rat) (k : Nat) : Rat := if k % 2 = 1 then -q else q

theorem fit_sgn {L : Nat} {q : Rat} (k : Nat) (h : FitW L q) : FitW L (sgnP q k) := by
  unfold sgnP
  split
  · obtain ⟨_, h2, h3⟩ := oppB_q q
    unfold FitW
    rw [h2, h3]
    exact h
  · exact h

set_option maxHeartbeats 4000000 in
set_option maxRecDepth 10000 in
theorem signed_at (x : Value) (q : Rat) (k L : Nat) (w : World) (hx : FQ w x q L) (hk : k ≤ 100000) :
    Calls Tryz.prog 152 #[x, .int .i64 ((k : Nat) : Int)] w fun e w' => FQE w (sgnP q k) L e w' := by
  have HX := hide hx
  obtain ⟨uo, ul, uc, do_, dl, dc, rfl⟩ := hx.shape
  clear hx
  obtain ⟨W, hW⟩ : ∃ W, W = (w.alloc (Obj.cells #[.bool (rB q), .slice uo ul uc, .slice do_ dl dc] 107)).alloc (Obj.cells #[.bool false, .slice none 0 0, .slice none 0 0] 107) := ⟨_, rfl⟩
  have GW : Hid (w.grownBy W none) := by rw [hW]; exact gr_alloc (gr_alloc (gr_refl _ _) _) _
  have CX : Hid (W.cell? ⟨w.heap.size, 0, none⟩ = some (.bool (rB q)) ∧ W.cell? ⟨w.heap.size, 1, none⟩ = some (.slice uo ul uc) ∧ W.cell? ⟨w.heap.size, 2, none⟩ = some (.slice do_ dl dc)) := by
    have hg : ((w.alloc (Obj.cells #[.bool (rB q), .slice uo ul uc, .slice do_ dl dc] 107)).alloc (Obj.cells #[.bool false, .slice none 0 0, .slice none 0 0] 107)).grownBy W none := by rw [← hW]; exact gr_refl _ _
    exact box_three (gr_none (gr_alloc (gr_refl _ none) _) hg)
  have RES : Hid (∀ wx, W.grownBy wx none → (wx.cell? ⟨w.heap.size + 1, 0, none⟩ = some (.bool false) ∧ wx.cell? ⟨w.heap.size + 1, 1, none⟩ = some (.slice none 0 0) ∧ wx.cell? ⟨w.heap.size + 1, 2, none⟩ = some (.slice none 0 0) ∧ ∀ i, wx.frozen? ⟨w.heap.size + 1, i, none⟩ = false) ∧ NoWords wx (w.heap.size + 1)) := by
    intro wx hg
    rw [hW] at hg
    have a3 := res_cells hg
    have a4 := noWords_res hg
    have e3 : (w.alloc (Obj.cells #[.bool (rB q), .slice uo ul uc, .slice do_ dl dc] 107)).heap.size = w.heap.size + 1 := by simp
    rw [e3] at a3 a4
    exact ⟨a3, a4⟩
  obtain ⟨s0, s1, s2⟩ := CX.out
  go_enter Tryz.func152, Tryz.ntmps152
  go_upto_region 1 with fail
  rw [← hW]
  clear hW
  by_cases hb : k % 2 = 1
  · have ES : Hid (sgnP q k = -q) := by show _ = _; unfold sgnP; rw [if_pos hb]
    have hb1 : ((((k : Nat) : Int).tmod 2) == 1) = true := by rw [Int.tmod_eq_emod_of_nonneg (by omega)]; exact beq_iff_eq.2 (by omega)
    have hb2 : ((((k : Nat) : Int) % 2) == 1) = true := beq_iff_eq.2 (by omega)
    clear hb
    go_wp2_with fail
    refine (qOpp_at _ q L W (HX.out.keep0 GW.out)).mono ?_
    rintro e wf ⟨v6, rfl, f1, f2⟩
    rw [← ES.out] at f1
    obtain ⟨fo, fl, fc, fo2, fl2, fc2, rfl⟩ := f1.shape
    obtain ⟨⟨r0, r1, r2, rf⟩, nw⟩ := RES.out wf f2
    have rf0 := rf 0
    have rf1 := rf 1
    have rf2 := rf 2
    have F1 := hide f1
    have F2 := hide f2
    have NW := hide nw
    clear rf f1 f2 nw s0 s1 s2 hb1 hb2
    go_wp2
    refine bodyPost_ret (v := .agg #[.bool (rB (sgnP q k)), .slice fo fl fc, .slice fo2 fl2 fc2]) (by first | (simp [results, Tryz.results152, go_sem, r0, r1, r2]; done) | (simp [results, Tryz.results152, go_sem, r0, r1, r2]; rfl)) rfl ?_
    exact ⟨_, rfl, FV.other F1.out NW.out gr_three, gr_set (gr_set (gr_set (gr_none GW.out F2.out) _ _ (by simp)) _ _ (by simp)) _ _ (by simp)⟩
  · have ES : Hid (sgnP q k = q) := by show _ = _; unfold sgnP; rw [if_neg hb]
    have hb1 : ((((k : Nat) : Int).tmod 2) == 1) = false := by rw [Int.tmod_eq_emod_of_nonneg (by omega)]; exact beq_eq_false_iff_ne.2 (by omega)
    have hb2 : ((((k : Nat) : Int) % 2) == 1) = false := beq_eq_false_iff_ne.2 (by omega)
    clear hb
    obtain ⟨⟨r0, r1, r2, rf⟩, nw⟩ := RES.out W (gr_refl _ _)
    have rf0 := rf 0
    have rf1 := rf 1
    have rf2 := rf 2
    have NW := hide nw
    clear rf nw
    go_wp2
    refine bodyPost_ret (v := .agg #[.bool (rB q), .slice uo ul uc, .slice do_ dl dc]) (by first | (simp [results, Tryz.results152, go_sem, r0, r1, r2]; done) | (simp [results, Tryz.results152, go_sem, r0, r1, r2]; rfl)) rfl ?_
    rw [ES.out]
    exact ⟨_, rfl, FV.other (HX.out.keep0 GW.out) NW.out gr_three, gr_set (gr_set (gr_set GW.out _ _ (by simp)) _ _ (by simp)) _ _ (by simp)⟩
end Go.Proofs.YtbihhkcgiepgaaeGreatDoor

namespace Go.Proofs.YtbihhkcgiepgaaeGreatDoor
open Go.RowKit
set_option linter.unusedVariables false
set_option linter.unusedSimpArgs false

theorem entReal1 : Ent 151 := Go.Proofs.enters_of Tryz.func151 (by kernel_rfl) rfl
theorem entReal2 : Ent 154 := Go.Proofs.enters_of Tryz.func154 (by kernel_rfl) rfl

set_option maxHeartbeats 4000000 in
set_option maxRecDepth 10000 in
theorem real1_at (bx gx n c : Nat) (p : Nat → Rat) (i L : Nat) (w : World) (hx : w.cell? ⟨bx, 0, none⟩ = some (.slice (some ⟨gx, 0, none⟩) n c))
    (hr : FRow w gx n p L) (hi : i < n) (hn : n ≤ 3000) (hc : n ≤ c) (hm : c ≤ maxLen) :
    Calls Tryz.prog 151 #[.int .i64 ((i : Nat) : Int), .pointer (some ⟨bx, 0, none⟩)] w fun e w' => FQE w (sgnP (p i) i) L e w' := by
  unfold maxLen at hm
  have hgl := hr.lt
  have hxl := cell_lt hx
  simp only at hxl
  obtain ⟨uo, ul, uc, vo, vl, vc, c0, c1, c2, c3, _⟩ := hr.at i hi
  have C3 := hide c3
  clear hr c3
  obtain ⟨W, hW⟩ : ∃ W, W = w.alloc (Obj.cells #[.bool false, .slice none 0 0, .slice none 0 0] 107) := ⟨_, rfl⟩
  have GW : Hid (w.grownBy W none) := by rw [hW]; exact gr_alloc (gr_refl _ _) _
  have RES : Hid (∀ wx, W.grownBy wx none → (wx.cell? ⟨w.heap.size, 0, none⟩ = some (.bool false) ∧ wx.cell? ⟨w.heap.size, 1, none⟩ = some (.slice none 0 0) ∧ wx.cell? ⟨w.heap.size, 2, none⟩ = some (.slice none 0 0) ∧ ∀ i, wx.frozen? ⟨w.heap.size, i, none⟩ = false) ∧ NoWords wx w.heap.size) := by
    intro wx hg
    rw [hW] at hg
    exact ⟨res_cells hg, noWords_res hg⟩
  have s1 := GW.out.cell hx (by simp)
  have s2 := GW.out.cell c0 (by simp)
  have s3 := GW.out.cell c1 (by simp)
  have s4 := GW.out.cell c2 (by simp)
  clear c0 c1 c2 hx
  have n2 : w.heap.size ≠ bx := by omega
  have n3 : w.heap.size ≠ gx := by omega
  have hi1 : (0 : Int) ≤ ((i : Nat) : Int) := by omega
  have hi2 : ((i : Nat) : Int) < (n : Int) := by omega
  go_enter Tryz.func151, Tryz.ntmps151
  go_upto_region 1 with fail
  rw [← hW]
  clear hW
  go_wp2_with fail
  refine (signed_at _ (p i) i L W (C3.out.keep0 GW.out) (by omega)).mono ?_
  rintro e wf ⟨v6, rfl, f1, f2⟩
  obtain ⟨fo, fl, fc, fo2, fl2, fc2, rfl⟩ := f1.shape
  obtain ⟨⟨r0, r1, r2, rf⟩, nw⟩ := RES.out wf f2
  have rf0 := rf 0
  have rf1 := rf 1
  have rf2 := rf 2
  have F1 := hide f1
  have F2 := hide f2
  have NW := hide nw
  clear rf f1 f2 nw s1 s2 s3 s4
  go_wp2
  refine bodyPost_ret (v := .agg #[.bool (rB (sgnP (p i) i)), .slice fo fl fc, .slice fo2 fl2 fc2]) (by first | (simp [results, Tryz.results151, go_sem, r0, r1, r2]; done) | (simp [results, Tryz.results151, go_sem, r0, r1, r2]; rfl)) rfl ?_
  exact ⟨_, rfl, FV.other F1.out NW.out gr_three, gr_set (gr_set (gr_set (gr_none GW.out F2.out) _ _ (by simp)) _ _ (by simp)) _ _ (by simp)⟩

set_option maxHeartbeats 4000000 in
set_option maxRecDepth 10000 in
theorem real2_at (bx gx n c : Nat) (p : Nat → Rat) (i k L : Nat) (w : World) (hx : w.cell? ⟨bx, 0, none⟩ = some (.slice (some ⟨gx, 0, none⟩) n c))
    (hr : FRow w gx n p L) (hk : k = 2 * i) (hi : k < n) (hn : n ≤ 3000) (hc : n ≤ c) (hm : c ≤ maxLen) :
    Calls Tryz.prog 154 #[.int .i64 ((i : Nat) : Int), .pointer (some ⟨bx, 0, none⟩)] w fun e w' => FQE w (sgnP (p k) i) L e w' := by
  unfold maxLen at hm
  have hgl := hr.lt
  have hxl := cell_lt hx
  simp only at hxl
  obtain ⟨uo, ul, uc, vo, vl, vc, c0, c1, c2, c3, _⟩ := hr.at k hi
  have C3 := hide c3
  clear hr c3
  obtain ⟨W, hW⟩ : ∃ W, W = w.alloc (Obj.cells #[.bool false, .slice none 0 0, .slice none 0 0] 107) := ⟨_, rfl⟩
  have GW : Hid (w.grownBy W none) := by rw [hW]; exact gr_alloc (gr_refl _ _) _
  have RES : Hid (∀ wx, W.grownBy wx none → (wx.cell? ⟨w.heap.size, 0, none⟩ = some (.bool false) ∧ wx.cell? ⟨w.heap.size, 1, none⟩ = some (.slice none 0 0) ∧ wx.cell? ⟨w.heap.size, 2, none⟩ = some (.slice none 0 0) ∧ ∀ i, wx.frozen? ⟨w.heap.size, i, none⟩ = false) ∧ NoWords wx w.heap.size) := by
    intro wx hg
    rw [hW] at hg
    exact ⟨res_cells hg, noWords_res hg⟩
  have s1 := GW.out.cell hx (by simp)
  have s2 := GW.out.cell c0 (by simp)
  have s3 := GW.out.cell c1 (by simp)
  have s4 := GW.out.cell c2 (by simp)
  have hki : (2 * ((i : Nat) : Int)) = ((k : Nat) : Int) := by omega
  have hik : i ≤ 3000 := by omega
  clear c0 c1 c2 hx hk
  have n2 : w.heap.size ≠ bx := by omega
  have n3 : w.heap.size ≠ gx := by omega
  have hi1 : (0 : Int) ≤ ((k : Nat) : Int) := by omega
  have hi2 : ((k : Nat) : Int) < (n : Int) := by omega
  go_enter Tryz.func154, Tryz.ntmps154
  go_upto_region 1 with fail
  rw [← hW]
  clear hW
  go_wp2_with fail
  refine (signed_at _ (p k) i L W (C3.out.keep0 GW.out) (by omega)).mono ?_
  rintro e wf ⟨v6, rfl, f1, f2⟩
  obtain ⟨fo, fl, fc, fo2, fl2, fc2, rfl⟩ := f1.shape
  obtain ⟨⟨r0, r1, r2, rf⟩, nw⟩ := RES.out wf f2
  have rf0 := rf 0
  have rf1 := rf 1
  have rf2 := rf 2
  have F1 := hide f1
  have F2 := hide f2
  have NW := hide nw
  clear rf f1 f2 nw s1 s2 s3 s4
  go_wp2
  refine bodyPost_ret (v := .agg #[.bool (rB (sgnP (p k) i)), .slice fo fl fc, .slice fo2 fl2 fc2]) (by first | (simp [results, Tryz.results154, go_sem, r0, r1, r2]; done) | (simp [results, Tryz.results154, go_sem, r0, r1, r2]; rfl)) rfl ?_
  exact ⟨_, rfl, FV.other F1.out NW.out gr_three, gr_set (gr_set (gr_set (gr_none GW.out F2.out) _ _ (by simp)) _ _ (by simp)) _ _ (by simp)⟩

theorem pzero_nil (xo : Option Addr) (xc : Nat) (w : World) :
    Calls Tryz.prog 75 #[.slice xo 0 xc] w fun e w' => e = .returned (.bool true) ∧ w' = w := by
  go_enter Tryz.func75, Tryz.ntmps75
  go_wp2
  go_ret
  exact ⟨by first | rfl | simp, rfl⟩

set_option maxHeartbeats 4000000 in
set_option maxRecDepth 10000 in
theorem never_zero (xo : Option Addr) (xc : Nat) (w : World) :
    Calls Tryz.prog 69 #[.slice xo 0 xc] w fun e w' => e = .returned (.bool true) ∧ w.grownBy w' none := by
  go_enter Tryz.func69, Tryz.ntmps69
  go_wp2
  go_loopw [0] (fun v wr => v = .slice xo 0 xc ∧ wr = w) (fun v _ => lenOf v)
  case atStart => exact ⟨rfl, rfl⟩
  case round =>
    obtain ⟨rfl, rfl⟩ := hrel
    go_wp2_with (go_at_call 75; refine (pzero_nil xo xc _).mono ?_; rintro e w3 ⟨rfl, rfl⟩)
    go_ret
    exact ⟨rfl, gr_refl _ _⟩
end Go.Proofs.YtbihhkcgiepgaaeGreatDoor

namespace Go.Proofs.YtbihhkcgiepgaaeGreatDoor
open Go.RowKit
set_option linter.unusedVariables false
set_option linter.unusedSimpArgs false

set_option maxHeartbeats 4000000 in
set_option maxRecDepth 10000 in
theorem never_neg (x : Value) (p : Nat → Rat) (L : Nat) (w : World) (hx : Rw w x 1 p L) (hp : PL p 1) (hs : (p 0).num.sign = -1) :
    Calls Tryz.prog 69 #[x] w fun e w' => e = .returned (.bool false) ∧ w.grownBy w' none := by
  have HX := hide hx
  have HP := hide hp
  have HS := hide hs
  obtain ⟨xo, xc, rfl, hc, hm, h3⟩ := hx
  obtain ⟨gx, ex, hr⟩ := h3 (by omega)
  subst ex
  unfold maxLen at hm
  have HR := hide hr
  have hz1 : Hid (decide (rN (p 0) = 0) = false) := by
    refine decide_eq_false fun e => hp.2 (by decide) ?_
    unfold rN at e
    have e2 : (p 0).num = 0 := by omega
    exact Rat.num_eq_zero.1 e2
  clear hr h3 hp hs
  go_enter Tryz.func69, Tryz.ntmps69
  go_wp2
  go_loopw [0] (fun v wr => v = .slice (some ⟨gx, 0, none⟩) 1 xc ∧ Hid (wr = w)) (fun v _ => lenOf v)
  case atStart => exact ⟨rfl, rfl⟩
  case round =>
    obtain ⟨rfl, hw⟩ := hrel
    have hw2 := hw.out
    subst hw2
    obtain ⟨uo, ul, uc, do_, dl, dc, c0, c1, c2, c3, _⟩ := HR.out.at 0 (by omega)
    simp only [Nat.zero_mul, Nat.zero_add] at c0 c1 c2
    have C3 := hide c3
    clear c3 hw
    go_wp2_with (first
      | (go_at_call 60; refine (isZero_at _ _ _ _ L _ C3.out).mono ?_; rintro e w3 ⟨rfl, g3⟩; rw [hz1.out]; have G3 := hide g3; clear g3)
      | (go_at_call 75; refine (pzero_at _ 1 p L _ (HX.out.keep0 G3.out)).mono ?_; rintro e w4 ⟨rfl, rfl⟩; rw [show decide (1 = 0) = false from rfl])
      | (go_at_call 132; refine (last_at _ 1 p L _ (HX.out.keep0 G3.out) (by decide) (by decide) HP.out.1).mono ?_; rintro e w5 ⟨v5, rfl, f5, g5⟩; rw [show 1 - 1 = 0 from rfl] at f5; obtain ⟨fo, fl, fc, fo2, fl2, fc2, rfl⟩ := f5.shape; have F5 := hide f5; have G5 := hide (gr_none G3.out g5); clear f5 g5)
      | (go_at_call 79; refine (fSign_at _ (p 0) L _ F5.out).mono ?_; rintro e w6 ⟨rfl, g6⟩; rw [HS.out]; have G6 := hide (gr_none G5.out g6); clear g6))
    go_ret
    exact ⟨rfl, G6.out⟩
end Go.Proofs.YtbihhkcgiepgaaeGreatDoor

namespace Go.Proofs.YtbihhkcgiepgaaeGreatDoor
open Go.RowKit
set_option linter.unusedVariables false
set_option linter.unusedSimpArgs false

/-- What Times asks for of the numbers that come up. -/
structure TimOk (p q : Nat → Rat) (n m L : Nat) : Prop where
  pp : PL p n
  pq : PL q m
  n0 : 0 < n
  m0 : 0 < m
  nl : n ≤ 1000
  ml : m ≤ 1000
  b1 : ∀ i, i ≤ n → FitW L (barP p i)
  b2 : ∀ i, i ≤ m → FitW L (barP q i)
  h1 : barP p n ≠ 0
  h2 : barP q m ≠ 0
  f1 : ∀ i, FitW L (barP p n * p i)
  f2 : ∀ i, FitW L (barP q m * q i)
  f3 : ∀ i, i ≤ n → ∀ j, FitW L (cnvR (fun i => barP p n * p i) (fun i => barP q m * q i) m i j)
  f4 : ∀ j, FitW L (timP p q n m j)

/-- Every second number with its sign in turn changed. -/
def mirP (q : Nat → Rat) : Nat → Rat := fun i => sgnP (q i) i

/-- The real part along the middle. -/
def alongP (T : Nat → Rat) : Nat → Rat := fun i => sgnP (T (2 * i)) i

theorem sgnP_zero (k : Nat) : sgnP 0 k = 0 := by
  unfold sgnP
  split <;> rfl

theorem sgnP_ne {q : Rat} (h : q ≠ 0) (k : Nat) : sgnP q k ≠ 0 := by
  unfold sgnP
  split
  · intro e
    exact h (by grind)
  · exact h

theorem PL_mir {q : Nat → Rat} {m : Nat} (h : PL q m) : PL (mirP q) m :=
  ⟨fun i hi => by unfold mirP; rw [h.1 i hi, sgnP_zero], fun h0 => sgnP_ne (h.2 h0) _⟩

set_option maxHeartbeats 4000000 in
set_option maxRecDepth 10000 in
theorem along_real (x y : Value) (n m N : Nat) (p q : Nat → Rat) (L : Nat) (w : World) (hx : Rw w x n p L) (hy : Rw w y m q L) (hq : PL q m) (ok : TimOk p (mirP q) n m L) (hT : PL (timP p (mirP q) n m) N) (hN : N ≤ 2000) (hL2 : 2 ≤ L) (hL : L ≤ 100000000000) (hml : MLen w) :
    Calls Tryz.prog 70 #[x, y] w fun e w' => PolE w (alongP (timP p (mirP q) n m)) L e w' := by
  have HX := hide hx
  have HY := hide hy
  have HQ := hide hq
  have OK := hide ok
  have HT := hide hT
  have HM := hide hml
  have hm := ok.ml
  obtain ⟨xo, xc, rfl, hxc, hxm, _⟩ := hx
  obtain ⟨yo, yc, rfl, hyc, hym, h3⟩ := hy
  obtain ⟨gy, ey, hr⟩ := h3 ok.m0
  subst ey
  have HR := hide hr
  unfold maxLen at hxm hym
  clear hq ok hT hml hr h3
  obtain ⟨W, hW⟩ : ∃ W, W = w.alloc (Obj.cells #[.slice (some ⟨gy, 0, none⟩) m yc] 96) := ⟨_, rfl⟩
  have GW : Hid (w.grownBy W none) := by rw [hW]; exact gr_alloc (gr_refl _ _) _
  have CX : Hid (W.cell? ⟨w.heap.size, 0, none⟩ = some (.slice (some ⟨gy, 0, none⟩) m yc)) := by
    show _ = _
    rw [hW]
    go_simp
  have s0 := CX.out
  go_enter Tryz.func70, Tryz.ntmps70
  go_upto_region 1 with fail
  rw [← hW]
  clear hW
  go_wp2_with fail
  refine (filled_pol m 151 #[] #[.pointer (some ⟨w.heap.size, 0, none⟩)] (mirP q) L W entReal1 (by omega) (PL_mir HQ.out).1 ?_).mono ?_
  · intro i hi wx hg
    exact (real1_at w.heap.size gy m yc q i L wx (hg.cell CX.out (by simp)) (HR.out.keep0 (gr_none GW.out hg)) hi (by omega) hyc (by unfold maxLen; omega)).mono (fun _ _ h => h)
  intro e w2 h
  obtain ⟨ao, ac, rfl, a1, a2⟩ := h.get (PL_mir HQ.out)
  have A1 := hide a1
  have G2 := hide (gr_none GW.out a2)
  clear a1 a2 h s0
  go_wp2_with fail
  refine (ptimes_at _ _ n m p (mirP q) L w2 (HX.out.keep0 G2.out) A1.out OK.out.pp OK.out.pq OK.out.n0 OK.out.m0 OK.out.nl OK.out.ml hL2 hL OK.out.b1 OK.out.b2 OK.out.h1 OK.out.h2 OK.out.f1 OK.out.f2 OK.out.f3 OK.out.f4 (HM.out.keep0 G2.out)).mono ?_
  intro e w3 h
  obtain ⟨bo, bc, rfl, b1, b2⟩ := h.get HT.out
  have B1 := hide b1
  have G3 := hide (gr_none G2.out b2)
  clear b1 b2 h
  go_upto_region 3 with fail
  obtain ⟨w4, hw4⟩ : ∃ w4, w4 = w3.alloc (Obj.cells #[.slice bo N bc] 96) := ⟨_, rfl⟩
  have G4 : Hid (w3.grownBy w4 none) := by rw [hw4]; exact gr_alloc (gr_refl _ _) _
  have CY : Hid (w4.cell? ⟨w3.heap.size, 0, none⟩ = some (.slice bo N bc)) := by
    show _ = _
    rw [hw4]
    go_simp
  have s1 := CY.out
  rw [← hw4]
  clear hw4
  obtain ⟨M, hM⟩ : ∃ M, M = (N + 1) / 2 := ⟨_, rfl⟩
  have hMi : (((N : Nat) : Int) + 1).tdiv 2 = ((M : Nat) : Int) := by rw [Int.tdiv_eq_ediv_of_nonneg (by omega)]; omega
  have hMi2 : (((N : Nat) : Int) + 1) / 2 = ((M : Nat) : Int) := by omega
  have HMM := hide hM
  clear hM
  go_wp2_with fail
  refine (filled_pol M 154 #[] #[.pointer (some ⟨w3.heap.size, 0, none⟩)] (alongP (timP p (mirP q) n m)) L w4 entReal2 (by have := HMM.out; omega) (fun i hi => by unfold alongP; rw [HT.out.1 _ (by have := HMM.out; omega), sgnP_zero]) ?_).mono ?_
  · intro i hi wx hg
    have hM := HMM.out
    obtain ⟨ao5, c5, e5, k1, k2, k3⟩ := B1.out
    simp only [Value.slice.injEq, true_and] at e5
    obtain ⟨rfl, rfl⟩ := e5
    obtain ⟨g5, e6, hr5⟩ := k3 (by omega)
    subst e6
    exact (real2_at w3.heap.size g5 N bc _ i (2 * i) L wx (hg.cell CY.out (by simp)) (hr5.keep0 (gr_none G4.out hg)) rfl (by omega) (by omega) k1 k2).mono (fun _ _ h => h)
  · rintro e w5 ⟨v, k, rfl, h1, h2, h3⟩
    obtain ⟨ao6, c6, rfl, k1, k2, k3⟩ := h1
    have K3 := hide k3
    have K2 := hide k2
    have H2 := hide h2
    have H3 := hide h3
    clear k3 k2 h2 h3 s1 hMi hMi2
    go_wp2
    go_ret
    exact ⟨_, k, rfl, ⟨ao6, c6, rfl, k1, K2.out, K3.out⟩, H2.out, gr_none (gr_none G3.out G4.out) H3.out⟩
end Go.Proofs.YtbihhkcgiepgaaeGreatDoor
