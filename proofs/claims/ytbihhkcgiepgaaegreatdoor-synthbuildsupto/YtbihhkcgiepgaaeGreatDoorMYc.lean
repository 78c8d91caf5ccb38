/- poly: one, Without of 1, Common of what shares nothing. -/
import Derived.Test.YtbihhkcgiepgaaeGreatDoorMYb
import Derived.Test.YtbihhkcgiepgaaeGreatDoorPPart
import Derived.Test.YtbihhkcgiepgaaeGreatDoorMPb
import Derived.Test.YtbihhkcgiepgaaeGreatDoorMTa
namespace Go.Proofs.YtbihhkcgiepgaaeGreatDoor
open Go.RowKit
set_option linter.unusedVariables false
set_option linter.unusedSimpArgs false

/-- The polynomial of these numbers. -/
def pol (l : List Rat) : Nat → Rat := fun i => l.getD i 0

theorem PolE.get {w : World} {p : Nat → Rat} {L n : Nat} {e : Ending} {w' : World} (h : PolE w p L e w') (hp : PL p n) : ∃ ao c, e = .returned (.slice ao n c) ∧ Rw w' (.slice ao n c) n p L ∧ w.grownBy w' none := by
  obtain ⟨v, m, rfl, h1, h2, h3⟩ := h
  have := PL_uniq h2 hp
  subst this
  have h1' := h1
  obtain ⟨ao, c, rfl, _⟩ := h1
  exact ⟨ao, c, rfl, h1', h3⟩

theorem PolE.congr {w : World} {p q : Nat → Rat} {L : Nat} {e : Ending} {w' : World} (h : PolE w p L e w') (k : ∀ i, p i = q i) : PolE w q L e w' := by
  have : p = q := funext k
  rw [← this]
  exact h

theorem fit_one {L : Nat} (h : 1 ≤ L) : FitW L 1 := ⟨one_lt_pow h, one_lt_pow h⟩

theorem pl_one : PL (pol [1]) 1 := ⟨fun i hi => by unfold pol; rw [List.getD_eq_getElem?_getD, List.getElem?_eq_none (by simpa using hi)]; rfl, fun _ => by decide⟩

set_option maxHeartbeats 4000000 in
set_option maxRecDepth 10000 in
theorem ofOne_at (L : Nat) (w : World) (hL : 2 ≤ L) (hml : MLen w) : Calls Tryz.prog 88 #[.string ⟨#[49]⟩] w fun e w' => FQE w 1 L e w' := by
  obtain ⟨m, hm⟩ := hml
  refine (qOf_at ⟨#[49]⟩ m w (by decide) hm).mono ?_
  rintro e w' ⟨v, rfl, h1, h2⟩
  have e1 : ofR (⟨#[49]⟩ : ByteArray).data.toList = 1 := by decide +kernel
  rw [e1] at h1
  exact ⟨v, rfl, h1.mono hL, h2⟩

set_option maxHeartbeats 4000000 in
set_option maxRecDepth 10000 in
theorem one_at (L : Nat) (w : World) (hL : 2 ≤ L) (hml : MLen w) : Calls Tryz.prog 148 #[] w fun e w' => ∃ v, e = .returned (.slice (some v) 1 1) ∧ Rw w' (.slice (some v) 1 1) 1 (pol [1]) L ∧ w.grownBy w' none := by
  go_enter Tryz.func148, Tryz.ntmps148
  go_wp2_with fail
  refine (ofOne_at L w hL hml).mono ?_
  rintro e w1 ⟨v1, rfl, a1, a2⟩
  obtain ⟨uo, ul, uc, vo, vl, vc, rfl⟩ := a1.shape
  have A1 := hide a1
  have A2 := hide a2
  clear a1 a2
  go_wp2
  go_ret
  refine ⟨_, rfl, ⟨_, _, rfl, Nat.le_refl _, by unfold maxLen; omega, fun _ => ⟨_, rfl, ?_⟩⟩, gr_none A2.out (gr_alloc (gr_refl _ _) _)⟩
  refine ⟨_, _, heap_alloc_new _ _, fun i hi => ?_⟩
  obtain rfl : i = 0 := by omega
  exact ⟨_, _, rfl, rfl, rfl, A1.out.keep0 (gr_alloc (gr_refl _ _) _)⟩

set_option maxHeartbeats 4000000 in
set_option maxRecDepth 10000 in
theorem without_at (x d : Value) (n : Nat) (p : Nat → Rat) (L : Nat) (w : World) (hx : Rw w x n p L) (hd : Rw w d 1 (pol [1]) L) (hn : n ≤ 3000) (hL2 : 2 ≤ L) (hL : L ≤ 1000000000000) (h0 : ∀ i, n ≤ i → p i = 0) (hfit : ∀ i, FitW L (p i)) (hml : MLen w) :
    Calls Tryz.prog 222 #[x, d] w fun e w' => PolE w p L e w' := by
  have HX := hide hx
  have HD := hide hd
  have H0 := hide h0
  have HF := hide hfit
  have HM := hide hml
  obtain ⟨xo, xc, rfl, hxc, hxm, _⟩ := hx
  obtain ⟨do_, dc, rfl, hdc, hdm, _⟩ := hd
  clear h0 hfit hml
  go_enter Tryz.func222, Tryz.ntmps222
  go_wp2_with fail
  refine (ofOne_at L w hL2 HM.out).mono ?_
  rintro e w1 ⟨v1, rfl, a1, a2⟩
  obtain ⟨uo, ul, uc, vo, vl, vc, rfl⟩ := a1.shape
  have A1 := hide a1
  have A2 := hide a2
  clear a1 a2
  go_wp2_with fail
  refine (last_at _ 1 (pol [1]) L w1 (HD.out.keep0 A2.out) (by decide) (by decide) pl_one.1).mono ?_
  rintro e w2 ⟨v2, rfl, b1, b2⟩
  have e1 : pol [1] (1 - 1) = 1 := rfl
  rw [e1] at b1
  obtain ⟨bo, bl, bc, co, cl, cc, rfl⟩ := b1.shape
  have B1 := hide b1
  have B2 := hide b2
  have A3 := hide (A1.out.keep0 b2)
  clear b1 b2 e1
  go_wp2_with fail
  refine (qOver_at _ _ 1 1 L L w2 A3.out B1.out (by decide) (by omega)).mono ?_
  rintro e w3 ⟨v3, rfl, c1, c2⟩
  have e2 : (1 : Rat) / 1 = 1 := by decide +kernel
  rw [e2] at c1
  obtain ⟨do3, dl3, dc3, eo, el, ec, rfl⟩ := c1.shape
  have C1 := hide (c1.tight (fit_one (L := L) (by omega)))
  have G3 := hide (gr_none (gr_none A2.out B2.out) c2)
  clear c1 c2 e2
  go_wp2_with fail
  refine (scaled_at _ _ n p 1 L w3 (HX.out.keep0 G3.out) C1.out hn hL H0.out (fun i _ => by rw [Rat.one_mul]; exact HF.out i)).mono ?_
  intro e w4 h
  obtain ⟨v4, k, rfl, h1, h2, h3⟩ := PolE.congr (q := p) h (fun i => Rat.one_mul _)
  have K1 := hide h1
  have K2 := hide h2
  have K3 := hide h3
  obtain ⟨ao, c, rfl, _⟩ := h1
  clear h h2 h3
  go_wp2
  go_ret
  exact ⟨_, k, rfl, K1.out, K2.out, gr_none G3.out K3.out⟩

/-- A plain polynomial of short numbers. -/
structure Smp (p : Nat → Rat) (n L : Nat) : Prop where
  pl : PL p n
  sh : shr p n = 1
  f1 : ∀ i, i ≤ n → FitW L (shr p i)
  f2 : ∀ i, FitW L (p i)

theorem plain_smp (x : Value) (n : Nat) (p : Nat → Rat) (L : Nat) (w : World) (hx : Rw w x n p L) (hp : Smp p n L) (hn : n ≤ 3000) (hL : L ≤ 1000000000000) :
    Calls Tryz.prog 67 #[x] w fun e w' => PolE w p L e w' := by
  have e : ∀ i, plainP p n i = p i := fun i => by
    unfold plainP
    rw [hp.sh, Rat.div_def]
    have : (1 : Rat)⁻¹ = 1 := by decide +kernel
    rw [this, Rat.mul_one]
  refine (plain_at x n p L w hx hp.pl hn hL hp.f1 (fun i _ => by rw [e]; exact hp.f2 i)).mono ?_
  intro _ _ h
  exact h.congr e

set_option maxHeartbeats 4000000 in
set_option maxRecDepth 10000 in
theorem common_one (x y : Value) (n m : Nat) (p q : Nat → Rat) (L : Nat) (w : World) (hx : Rw w x (n + 1) p L) (hy : Rw w y (m + 1) q L) (sp : Smp p (n + 1) L) (sq : Smp q (m + 1) L) (hm : m ≤ 2999) (hn : n ≤ 2999) (hm1 : 1 ≤ m) (hn1 : 1 ≤ n) (hq : Sho q m) (hp : Sho p n) (h1 : leftV 4294967291 (q m) = 1)
    (hr1 : restS 4294967291 1 (shortL q (m + 1)) (n + 2) (shortL p (n + 1)) = [1]) (hr2 : restS 4294967291 1 [1] (m + 2) (shortL q (m + 1)) = []) (hL2 : 2 ≤ L) (hL : L ≤ 1000000000000) (hml : MLen w) :
    Calls Tryz.prog 220 #[x, y] w fun e w' => ∃ v, e = .returned (.slice (some v) 1 1) ∧ Rw w' (.slice (some v) 1 1) 1 (pol [1]) L ∧ w.grownBy w' none := by
  have HX := hide hx
  have HY := hide hy
  have SP := hide sp
  have SQ := hide sq
  have HQ := hide hq
  have HP := hide hp
  have H1 := hide h1
  have HR1 := hide hr1
  have HR2 := hide hr2
  have HM := hide hml
  obtain ⟨xo, xc, rfl, hxc, hxm, _⟩ := hx
  obtain ⟨yo, yc, rfl, hyc, hym, _⟩ := hy
  have ez1 : Hid (decide (n + 1 = 0) = false) := decide_eq_false (by omega)
  have ez2 : Hid (decide (m + 1 = 0) = false) := decide_eq_false (by omega)
  clear sp sq hq hp h1 hr1 hr2 hml
  go_enter Tryz.func220, Tryz.ntmps220
  go_wp2_with fail
  refine (pzero_at _ (n + 1) p L w HX.out).mono ?_
  rintro e w1 ⟨rfl, rfl⟩
  rw [ez1.out]
  go_wp2_with fail
  refine (pzero_at _ (m + 1) q L _ HY.out).mono ?_
  rintro e w2 ⟨rfl, rfl⟩
  rw [ez2.out]
  go_wp2_with fail
  refine (plain_smp _ (n + 1) p L _ HX.out SP.out (by omega) hL).mono ?_
  intro e w3 h
  obtain ⟨ao, ac, rfl, a1, a2⟩ := h.get SP.out.pl
  have A1 := hide a1
  have A2 := hide a2
  clear a1 a2 h
  go_wp2_with fail
  refine (plain_smp _ (m + 1) q L _ (HY.out.keep0 A2.out) SQ.out (by omega) hL).mono ?_
  intro e w4 h
  obtain ⟨bo, bc, rfl, b1, b2⟩ := h.get SQ.out.pl
  have B1 := hide b1
  have A3 := hide (A1.out.keep0 b2)
  have G4 := hide (gr_none A2.out b2)
  clear b1 b2 h
  go_wp2_with fail
  refine (most_at _ _ n m p q L w4 A3.out B1.out (by omega) (by omega) hm1 hn1 HQ.out HP.out H1.out HR1.out HR2.out).mono ?_
  rintro e w5 ⟨rfl, b5⟩
  have G5 := hide (gr_none G4.out b5)
  clear b5
  go_wp2_with fail
  refine (one_at L w5 hL2 (HM.out.keep0 G5.out)).mono ?_
  rintro e w6 ⟨v6, rfl, c1, c2⟩
  have C1 := hide c1
  have G6 := hide (gr_none G5.out c2)
  clear c1 c2
  go_wp2
  go_ret
  exact ⟨_, rfl, C1.out, G6.out⟩
end Go.Proofs.YtbihhkcgiepgaaeGreatDoor

namespace Go.Proofs.YtbihhkcgiepgaaeGreatDoor
open Go.RowKit
set_option linter.unusedVariables false
set_option linter.unusedSimpArgs false

/-- Two slices of a new block, written to: no row of numbers is touched. -/
theorem rw_put2 {w : World} {g : Nat} {t : TypeId} {o0 o1 : Option Addr} {l0 c0 l1 c1 : Nat} (hb : w.heap[g]? = some (.cells #[.slice o0 l0 c0, .slice o1 l1 c1] t (0, 0))) (x y : Value) :
    w.grownBy ((w.setCell ⟨g, 0, none⟩ x).setCell ⟨g, 1, none⟩ y) (some g) ∧ WKept w ((w.setCell ⟨g, 0, none⟩ x).setCell ⟨g, 1, none⟩ y) ∧ ∀ v n R L, Rw w v n R L → Rw ((w.setCell ⟨g, 0, none⟩ x).setCell ⟨g, 1, none⟩ y) v n R L := by
  have hg : w.grownBy ((w.setCell ⟨g, 0, none⟩ x).setCell ⟨g, 1, none⟩ y) (some g) :=
    ⟨rfl, rfl, rfl, by simp, fun k _ hr => by
      have hk : k ≠ g := fun e => hr (by rw [e])
      rw [heap_setCell_other _ _ k _ hk, heap_setCell_other _ _ k _ hk]⟩
  have h1 := heap_setCell_same w g 0 _ t x hb
  have k1 : WKept w (w.setCell ⟨g, 0, none⟩ x) := WKept.set hb (fun z e => by simp at e) x
  have k2 := WKept.set h1 (i := 1) (fun z e => by simp at e) y
  refine ⟨hg, k1.trans k2, ?_⟩
  rintro v n R L ⟨ao, c, e, h2, h3, h4⟩
  refine ⟨ao, c, e, h2, h3, fun h0 => ?_⟩
  obtain ⟨b, e1, hr⟩ := h4 h0
  refine ⟨b, e1, hr.keep hg (k1.trans k2) ?_⟩
  intro e2
  simp only [Option.some.injEq] at e2
  subst e2
  obtain ⟨cur, ty, hb2, hc2⟩ := hr
  rw [hb] at hb2
  simp only [Option.some.injEq, Obj.cells.injEq] at hb2
  obtain ⟨u, d, d0, _⟩ := hc2 0 h0
  rw [← hb2.1] at d0
  simp at d0

theorem two_cells {w : World} {g : Nat} {t : TypeId} {x y : Value} (hb : w.heap[g]? = some (.cells #[x, y] t (0, 0))) : w.cell? ⟨g, 0, none⟩ = some x ∧ w.cell? ⟨g, 1, none⟩ = some y ∧ ∀ i, w.frozen? ⟨g, i, none⟩ = false :=
  ⟨by simp [World.cell?, hb], by simp [World.cell?, hb], fun i => by simp [World.frozen?, hb]⟩

/-- What a call answers that answers a fraction of polynomials. -/
def RatE (w : World) (p q : Nat → Rat) (n m L : Nat) (e : Ending) (w' : World) : Prop :=
  ∃ uo uc do_ dc, e = .returned (.agg #[.slice uo n uc, .slice do_ m dc]) ∧ Rw w' (.slice uo n uc) n p L ∧ Rw w' (.slice do_ m dc) m q L ∧ w.grownBy w' none

set_option maxHeartbeats 4000000 in
set_option maxRecDepth 10000 in
theorem pbarred_at (x y : Value) (n M : Nat) (p q : Nat → Rat) (L : Nat) (w : World) (hx : Rw w x n p L) (hy : Rw w y M q L) (hp : PL p n) (hq : PL q M) (h1 : q (M - 1) = 1) (fp : ∀ i, FitW L (p i)) (fq : ∀ i, FitW L (q i)) (hm2 : 2 ≤ M) (hm : M ≤ 3000) (hn : n ≤ 3000) (hL2 : 2 ≤ L) (hL : L ≤ 1000000000000) (hml : MLen w) :
    Calls Tryz.prog 221 #[x, y] w fun e w' => RatE w p q n M L e w' := by
  have HX := hide hx
  have HY := hide hy
  have HP := hide hp
  have HQ := hide hq
  have H1 := hide h1
  have FP := hide fp
  have FQ' := hide fq
  have HM := hide hml
  obtain ⟨xo, xc, rfl, hxc, hxm, _⟩ := hx
  obtain ⟨yo, yc, rfl, hyc, hym, _⟩ := hy
  unfold maxLen at hxm hym
  clear hp hq h1 fp fq hml
  obtain ⟨W, hW⟩ : ∃ W, W = w.alloc (Obj.cells #[.slice none 0 0, .slice none 0 0] 115) := ⟨_, rfl⟩
  have GW : Hid (w.grownBy W none) := by rw [hW]; exact gr_alloc (gr_refl _ _) _
  have RES : Hid (∀ wx, W.grownBy wx none → wx.heap[w.heap.size]? = some (.cells #[.slice none 0 0, .slice none 0 0] 115 (0, 0))) := by
    intro wx hg
    rw [hW] at hg
    rw [hg.block w.heap.size (by simp) (by simp)]
    exact heap_alloc_new _ _
  go_enter Tryz.func221, Tryz.ntmps221
  go_upto_region 1 with fail
  rw [← hW]
  clear hW
  go_wp2_with fail
  refine (ofOne_at L W hL2 (HM.out.keep0 GW.out)).mono ?_
  rintro e w1 ⟨v1, rfl, a1, a2⟩
  obtain ⟨uo, ul, uc, vo, vl, vc, rfl⟩ := a1.shape
  have A1 := hide a1
  have A2 := hide a2
  clear a1 a2
  go_wp2_with fail
  refine (last_at _ M q L w1 (HY.out.keep0 (gr_none GW.out A2.out)) (by omega) (by omega) HQ.out.1).mono ?_
  rintro e w2 ⟨v2, rfl, b1, b2⟩
  have e1 : q (M - 1) = 1 := H1.out
  rw [e1] at b1
  obtain ⟨bo, bl, bc, co, cl, cc, rfl⟩ := b1.shape
  have B1 := hide b1
  have B2 := hide b2
  have A3 := hide (A1.out.keep0 b2)
  clear b1 b2 e1
  go_wp2_with fail
  refine (qOver_at _ _ 1 1 L L w2 A3.out B1.out (by decide) (by omega)).mono ?_
  rintro e w3 ⟨v3, rfl, c1, c2⟩
  have e2 : (1 : Rat) / 1 = 1 := by decide +kernel
  rw [e2] at c1
  obtain ⟨do3, dl3, dc3, eo, el, ec, rfl⟩ := c1.shape
  have C1 := hide (c1.tight (fit_one (L := L) (by omega)))
  have G3 := hide (gr_none (gr_none A2.out B2.out) c2)
  clear c1 c2 e2
  go_upto_region 2 with fail
  obtain ⟨w4, hw4⟩ : ∃ w4, w4 = w3.alloc (Obj.cells #[.bool (rB 1), .slice do3 dl3 dc3, .slice eo el ec] 107) := ⟨_, rfl⟩
  have G4 : Hid (w3.grownBy w4 none) := by rw [hw4]; exact gr_alloc (gr_refl _ _) _
  have XC : Hid (∀ wx, w4.grownBy wx none → wx.cell? ⟨w3.heap.size, 0, none⟩ = some (.bool (rB 1)) ∧ wx.cell? ⟨w3.heap.size, 1, none⟩ = some (.slice do3 dl3 dc3) ∧ wx.cell? ⟨w3.heap.size, 2, none⟩ = some (.slice eo el ec)) := by
    intro wx hg
    rw [hw4] at hg
    exact box_three hg
  rw [← hw4]
  clear hw4
  have hb2 : ((((M : Nat) : Int)) == 1) = false := beq_eq_false_iff_ne.2 (by omega)
  go_wp2
  have hs3 : w.heap.size < w3.heap.size := by
    have h2 := G3.out.size
    have h3 := (Array.getElem?_eq_some_iff.1 (RES.out W (gr_refl _ _))).1
    omega
  have hn1 : w.heap.size ≠ w3.heap.size := by omega
  have hn2 : w3.heap.size ≠ w.heap.size := by omega
  have GG : w4.grownBy w4 none := gr_refl _ _
  obtain ⟨x0, x1, x2⟩ := XC.out w4 GG
  go_region_held3 (fun w' => w'.cell? ⟨w3.heap.size, 0, none⟩ = some (.bool (rB 1)) ∧ w'.cell? ⟨w3.heap.size, 1, none⟩ = some (.slice do3 dl3 dc3) ∧ w'.cell? ⟨w3.heap.size, 2, none⟩ = some (.slice eo el ec)) (go_keep)
    (first
      | (go_at_call_of 81 (Value.slice xo n xc); refine (scaled_at _ _ n p 1 L _ (HX.out.keep0 (gr_none (gr_none GW.out G3.out) (gr_none G4.out (by first | exact gr_none GG (gr_d _) | exact gr_none GG gr_d1 | exact GG)))) (C1.out.keep0 (gr_none G4.out (by first | exact gr_none GG (gr_d _) | exact gr_none GG gr_d1 | exact GG))) hn hL HP.out.1 (fun i _ => by rw [Rat.one_mul]; exact FP.out i)).mono ?_; intro e wa ha; obtain ⟨ao, ac, rfl, fa, ga⟩ := (ha.congr (q := p) (fun i => Rat.one_mul _)).get HP.out; have FA := hide fa; (try have FB := hide (FB.out.keep0 (by first | exact gr_none (gr_d _) ga | exact gr_none gr_d1 ga | exact ga))); have GG : w4.grownBy wa none := gr_none (by first | exact gr_none GG (gr_d _) | exact gr_none GG gr_d1 | exact GG) ga; obtain ⟨a0, a1, a2⟩ := XC.out wa GG; obtain ⟨r0, r1, rf⟩ := two_cells (RES.out wa (gr_none (gr_none G3.out G4.out) GG)); have rf0 := rf 0; have rf1 := rf 1; clear fa ga ha rf)
      | (go_at_call_of 81 (Value.slice yo M yc); refine (scaled_at _ _ M q 1 L _ (HY.out.keep0 (gr_none (gr_none GW.out G3.out) (gr_none G4.out (by first | exact gr_none GG (gr_d _) | exact gr_none GG gr_d1 | exact GG)))) (C1.out.keep0 (gr_none G4.out (by first | exact gr_none GG (gr_d _) | exact gr_none GG gr_d1 | exact GG))) (by omega) hL HQ.out.1 (fun i _ => by rw [Rat.one_mul]; exact FQ'.out i)).mono ?_; intro e wb hb; obtain ⟨bo5, bc5, rfl, fb, gb⟩ := (hb.congr (q := q) (fun i => Rat.one_mul _)).get HQ.out; have FB := hide fb; (try have FA := hide (FA.out.keep0 (by first | exact gr_none (gr_d _) gb | exact gr_none gr_d1 gb | exact gb))); have GG : w4.grownBy wb none := gr_none (by first | exact gr_none GG (gr_d _) | exact gr_none GG gr_d1 | exact GG) gb; obtain ⟨b0, b1, b2⟩ := XC.out wb GG; obtain ⟨r0, r1, rf⟩ := two_cells (RES.out wb (gr_none (gr_none G3.out G4.out) GG)); have rf0 := rf 0; have rf1 := rf 1; clear fb gb hb rf))
  all_goals
    have HG := hide GG
    have RB := hide (RES.out _ (gr_none (gr_none G3.out G4.out) GG))
    clear GG
    obtain ⟨z1, z2, z3⟩ := rw_put2 RB.out (.slice ao n ac) (.slice bo5 M bc5)
    have Z1 := hide z1
    have Z3 := hide z3
    clear z1 z2 z3
    go_wp2
    refine bodyPost_ret (v := .agg #[.slice ao n ac, .slice bo5 M bc5]) (by first | (simp [results, Tryz.results221, go_sem, r0, r1]; done) | (simp [results, Tryz.results221, go_sem, r0, r1]; rfl)) rfl ?_
    exact ⟨_, _, _, _, rfl, Z3.out _ _ _ _ FA.out, Z3.out _ _ _ _ FB.out, gr_own2 (gr_none GW.out (gr_none (gr_none G3.out G4.out) HG.out)) Z1.out (fun b e => by cases e; exact Nat.le_refl _)⟩
end Go.Proofs.YtbihhkcgiepgaaeGreatDoor

namespace Go.Proofs.YtbihhkcgiepgaaeGreatDoor
open Go.RowKit
set_option linter.unusedVariables false
set_option linter.unusedSimpArgs false

set_option maxHeartbeats 4000000 in
set_option maxRecDepth 10000 in
theorem rUp_at (uo do_ : Option Addr) (n uc m dc : Nat) (w : World) :
    Calls Tryz.prog 66 #[.agg #[.slice uo n uc, .slice do_ m dc]] w fun e w' => e = .returned (.slice uo n uc) ∧ w.grownBy w' none := by
  go_enter Tryz.func66, Tryz.ntmps66
  go_wp2
  go_ret
  exact ⟨rfl, gr_alloc (gr_refl _ _) _⟩

set_option maxHeartbeats 4000000 in
set_option maxRecDepth 10000 in
theorem isWholeR_at (uo do_ : Option Addr) (n uc m dc : Nat) (w : World) (hm : m ≤ 3000) :
    Calls Tryz.prog 147 #[.agg #[.slice uo n uc, .slice do_ m dc]] w fun e w' => e = .returned (.bool (decide (m = 0))) ∧ w.grownBy w' none := by
  by_cases h : m = 0
  · have hb : (((m : Nat) : Int) == 0) = true := by simp [h]
    rw [decide_eq_true h]
    clear h
    go_enter Tryz.func147, Tryz.ntmps147
    go_wp2
    go_ret
    exact ⟨by first | rfl | simp [hb], gr_alloc (gr_refl _ _) _⟩
  · have hb : (((m : Nat) : Int) == 0) = false := beq_eq_false_iff_ne.2 (by omega)
    rw [decide_eq_false h]
    clear h
    go_enter Tryz.func147, Tryz.ntmps147
    go_wp2
    go_ret
    exact ⟨by first | rfl | simp [hb], gr_alloc (gr_refl _ _) _⟩

set_option maxHeartbeats 4000000 in
set_option maxRecDepth 10000 in
theorem rZero_at (uo do_ : Option Addr) (n uc m dc : Nat) (p : Nat → Rat) (L : Nat) (w : World) (hx : Rw w (.slice uo n uc) n p L) :
    Calls Tryz.prog 74 #[.agg #[.slice uo n uc, .slice do_ m dc]] w fun e w' => e = .returned (.bool (decide (n = 0))) ∧ w.grownBy w' none := by
  have HX := hide hx
  clear hx
  go_enter Tryz.func74, Tryz.ntmps74
  go_wp2_with fail
  refine (pzero_at _ n p L _ (HX.out.keep0 (gr_alloc (gr_refl _ _) _))).mono ?_
  rintro e w1 ⟨rfl, rfl⟩
  go_wp2
  go_ret
  exact ⟨rfl, gr_alloc (gr_refl _ _) _⟩

set_option maxHeartbeats 4000000 in
set_option maxRecDepth 10000 in
theorem rDown_at (uo do_ : Option Addr) (n uc m dc : Nat) (w : World) (hm : m ≤ 3000) (h0 : 0 < m) :
    Calls Tryz.prog 68 #[.agg #[.slice uo n uc, .slice do_ m dc]] w fun e w' => e = .returned (.slice do_ m dc) ∧ w.grownBy w' none := by
  obtain ⟨W, hW⟩ : ∃ W, W = w.alloc (Obj.cells #[.slice uo n uc, .slice do_ m dc] 115) := ⟨_, rfl⟩
  have GW : Hid (w.grownBy W none) := by rw [hW]; exact gr_alloc (gr_refl _ _) _
  have BX : Hid (∀ wx, W.grownBy wx none → wx.cell? ⟨w.heap.size, 0, none⟩ = some (.slice uo n uc) ∧ wx.cell? ⟨w.heap.size, 1, none⟩ = some (.slice do_ m dc) ∧ ∀ i, wx.frozen? ⟨w.heap.size, i, none⟩ = false) := by
    intro wx hg
    rw [hW] at hg
    exact two_cells (by rw [hg.block w.heap.size (by simp) (by simp)]; exact heap_alloc_new _ _)
  have ed : Hid (decide (m = 0) = false) := decide_eq_false (by omega)
  obtain ⟨s0, s1, _⟩ := BX.out W (gr_refl _ _)
  go_enter Tryz.func68, Tryz.ntmps68
  go_upto_region 1 with fail
  rw [← hW]
  clear hW
  go_wp2_with fail
  refine (isWholeR_at uo do_ n uc m dc W hm).mono ?_
  rintro e w1 ⟨rfl, g1⟩
  rw [ed.out]
  obtain ⟨t0, t1, _⟩ := BX.out w1 g1
  have G1 := hide g1
  clear g1 s0 s1
  go_wp2
  go_ret
  exact ⟨rfl, gr_none GW.out G1.out⟩

set_option maxHeartbeats 4000000 in
set_option maxRecDepth 10000 in
theorem rDown_one (uo do_ : Option Addr) (n uc dc L : Nat) (w : World) (hL : 2 ≤ L) (hml : MLen w) :
    Calls Tryz.prog 68 #[.agg #[.slice uo n uc, .slice do_ 0 dc]] w fun e w' => ∃ v, e = .returned (.slice (some v) 1 1) ∧ Rw w' (.slice (some v) 1 1) 1 (pol [1]) L ∧ w.grownBy w' none := by
  have HM := hide hml
  clear hml
  obtain ⟨W, hW⟩ : ∃ W, W = w.alloc (Obj.cells #[.slice uo n uc, .slice do_ 0 dc] 115) := ⟨_, rfl⟩
  have GW : Hid (w.grownBy W none) := by rw [hW]; exact gr_alloc (gr_refl _ _) _
  have BX : Hid (∀ wx, W.grownBy wx none → wx.cell? ⟨w.heap.size, 0, none⟩ = some (.slice uo n uc) ∧ wx.cell? ⟨w.heap.size, 1, none⟩ = some (.slice do_ 0 dc) ∧ ∀ i, wx.frozen? ⟨w.heap.size, i, none⟩ = false) := by
    intro wx hg
    rw [hW] at hg
    exact two_cells (by rw [hg.block w.heap.size (by simp) (by simp)]; exact heap_alloc_new _ _)
  obtain ⟨s0, s1, _⟩ := BX.out W (gr_refl _ _)
  go_enter Tryz.func68, Tryz.ntmps68
  go_upto_region 1 with fail
  rw [← hW]
  clear hW
  go_wp2_with fail
  refine (isWholeR_at uo do_ n uc 0 dc W (by decide)).mono ?_
  rintro e w1 ⟨rfl, g1⟩
  have ed : decide (0 = 0) = true := rfl
  rw [ed]
  have G1 := hide (gr_none GW.out g1)
  clear g1 s0 s1 ed
  go_wp2_with fail
  refine (one_at L w1 hL (HM.out.keep0 G1.out)).mono ?_
  rintro e w6 ⟨v6, rfl, c1, c2⟩
  have C1 := hide c1
  have G6 := hide (gr_none G1.out c2)
  clear c1 c2
  go_wp2
  go_ret
  exact ⟨_, rfl, C1.out, G6.out⟩

set_option maxHeartbeats 4000000 in
set_option maxRecDepth 10000 in
theorem lowest_bar (x y : Value) (n m : Nat) (p q : Nat → Rat) (L : Nat) (w : World) (hx : Rw w x (n + 1) p L) (hy : Rw w y (m + 1) q L) (sp : Smp p (n + 1) L) (sq : Smp q (m + 1) L) (hm : m ≤ 2999) (hn : n ≤ 2999) (hm1 : 1 ≤ m) (hmn : m ≤ n) (hq : Sho q m) (hp : Sho p n) (hq1 : q m = 1) (h1 : leftV 4294967291 (q m) = 1)
    (hr1 : restS 4294967291 1 (shortL q (m + 1)) (n + 2) (shortL p (n + 1)) = [1]) (hr2 : restS 4294967291 1 [1] (m + 2) (shortL q (m + 1)) = []) (hL2 : 2 ≤ L) (hL : L ≤ 1000000000000) (hml : MLen w) :
    Calls Tryz.prog 143 #[x, y] w fun e w' => RatE w p q (n + 1) (m + 1) L e w' := by
  have HX := hide hx
  have HY := hide hy
  have SP := hide sp
  have SQ := hide sq
  have HQ := hide hq
  have HP := hide hp
  have HQ1 := hide hq1
  have H1 := hide h1
  have HR1 := hide hr1
  have HR2 := hide hr2
  have HM := hide hml
  obtain ⟨xo, xc, rfl, hxc, hxm, _⟩ := hx
  obtain ⟨yo, yc, rfl, hyc, hym, _⟩ := hy
  clear sp sq hq hp h1 hr1 hr2 hml hq1
  obtain ⟨W, hW⟩ : ∃ W, W = w.alloc (Obj.cells #[.slice none 0 0, .slice none 0 0] 115) := ⟨_, rfl⟩
  have GW : Hid (w.grownBy W none) := by rw [hW]; exact gr_alloc (gr_refl _ _) _
  have RES : Hid (∀ wx, W.grownBy wx none → wx.heap[w.heap.size]? = some (.cells #[.slice none 0 0, .slice none 0 0] 115 (0, 0))) := by
    intro wx hg
    rw [hW] at hg
    rw [hg.block w.heap.size (by simp) (by simp)]
    exact heap_alloc_new _ _
  go_enter Tryz.func143, Tryz.ntmps143
  go_upto_region 1 with fail
  rw [← hW]
  clear hW
  go_wp2_with fail
  refine (mayGo_at _ _ m n q p L W (HY.out.keep0 GW.out) (HX.out.keep0 GW.out) (by omega) (by omega) hmn HQ.out HP.out H1.out).mono ?_
  rintro e w1 ⟨rfl, g1⟩
  have e1 : decide (restS 4294967291 1 (shortL q (m + 1)) (n + 2) (shortL p (n + 1)) = []) = false := decide_eq_false (by rw [HR1.out]; simp)
  rw [e1]
  have G1 := hide g1
  clear g1 e1
  go_wp2_with fail
  refine (common_one _ _ n m p q L w1 (HX.out.keep0 (gr_none GW.out G1.out)) (HY.out.keep0 (gr_none GW.out G1.out)) SP.out SQ.out hm hn hm1 (by omega) HQ.out HP.out H1.out HR1.out HR2.out hL2 hL (HM.out.keep0 (gr_none GW.out G1.out))).mono ?_
  rintro e w2 ⟨v2, rfl, c1, c2⟩
  have C1 := hide c1
  have G2 := hide (gr_none G1.out c2)
  clear c1 c2
  go_wp2_with fail
  refine (without_at _ _ (n + 1) p L w2 (HX.out.keep0 (gr_none GW.out G2.out)) C1.out (by omega) hL2 hL SP.out.pl.1 SP.out.f2 (HM.out.keep0 (gr_none GW.out G2.out))).mono ?_
  intro e w3 h
  obtain ⟨ao, ac, rfl, a1, a2⟩ := h.get SP.out.pl
  have A1 := hide a1
  have C2 := hide (C1.out.keep0 a2)
  have G3 := hide (gr_none G2.out a2)
  clear a1 a2 h
  go_wp2_with fail
  refine (without_at _ _ (m + 1) q L w3 (HY.out.keep0 (gr_none GW.out G3.out)) C2.out (by omega) hL2 hL SQ.out.pl.1 SQ.out.f2 (HM.out.keep0 (gr_none GW.out G3.out))).mono ?_
  intro e w4 h
  obtain ⟨bo, bc, rfl, b1, b2⟩ := h.get SQ.out.pl
  have B1 := hide b1
  have A2 := hide (A1.out.keep0 b2)
  have G4 := hide (gr_none G3.out b2)
  clear b1 b2 h
  go_wp2_with fail
  refine (pbarred_at _ _ (n + 1) (m + 1) p q L w4 A2.out B1.out SP.out.pl SQ.out.pl HQ1.out SP.out.f2 SQ.out.f2 (by omega) (by omega) (by omega) hL2 hL (HM.out.keep0 (gr_none GW.out G4.out))).mono ?_
  rintro e w5 ⟨eo, ec, fo, fc, rfl, f1, f2, f3⟩
  have F1 := hide f1
  have F2 := hide f2
  have G5 := hide (gr_none G4.out f3)
  have RB := hide (RES.out w5 G5.out)
  obtain ⟨r0, r1, rf⟩ := two_cells RB.out
  have rf0 := rf 0
  have rf1 := rf 1
  obtain ⟨z1, z2, z3⟩ := rw_put2 RB.out (.slice eo (n + 1) ec) (.slice fo (m + 1) fc)
  have Z1 := hide z1
  have Z3 := hide z3
  clear z1 z2 z3 rf f1 f2 f3
  go_wp2
  refine bodyPost_ret (v := .agg #[.slice eo (n + 1) ec, .slice fo (m + 1) fc]) (by first | (simp [results, Tryz.results143, go_sem, r0, r1]; done) | (simp [results, Tryz.results143, go_sem, r0, r1]; rfl)) rfl ?_
  exact ⟨_, _, _, _, rfl, Z3.out _ _ _ _ F1.out, Z3.out _ _ _ _ F2.out, gr_own2 (gr_none GW.out G5.out) Z1.out (fun b e => by cases e; exact Nat.le_refl _)⟩

set_option maxHeartbeats 4000000 in
set_option maxRecDepth 10000 in
theorem lowest_div (x y : Value) (n m K : Nat) (p q : Nat → Rat) (L : Nat) (w : World) (hx : Rw w x (n + 1) p L) (hy : Rw w y (m + 1) q L) (pq : PL q (m + 1)) (hm : m ≤ 2999) (hn : n ≤ 2999) (hmn : m ≤ n) (hq : Sho q m) (hp : Sho p n) (h1 : leftV 4294967291 (q m) = 1) (hK : K = n + 1 - m)
    (hr1 : restS 4294967291 1 (shortL q (m + 1)) (n + 2) (shortL p (n + 1)) = []) (hfR : ∀ t, t ≤ K → ∀ j, FitW L (parC p q m K t j)) (hfO : ∀ j, FitW L (parO p q m K j)) (htr : trimLen (parC p q m K K) (n + 1) = 0) (hL2 : 2 ≤ L) (hL : L ≤ 1000000000000) :
    Calls Tryz.prog 143 #[x, y] w fun e w' => RatE w (parO p q m K) (fun _ => 0) K 0 L e w' := by
  have HX := hide hx
  have HY := hide hy
  have PQ := hide pq
  have HQ := hide hq
  have HP := hide hp
  have H1 := hide h1
  have HR1 := hide hr1
  have HFR := hide hfR
  have HFO := hide hfO
  have HTR := hide htr
  have HKK := hide hK
  obtain ⟨xo, xc, rfl, hxc, hxm, _⟩ := hx
  obtain ⟨yo, yc, rfl, hyc, hym, _⟩ := hy
  clear pq hq hp h1 hr1 hfR hfO htr hK
  obtain ⟨W, hW⟩ : ∃ W, W = w.alloc (Obj.cells #[.slice none 0 0, .slice none 0 0] 115) := ⟨_, rfl⟩
  have GW : Hid (w.grownBy W none) := by rw [hW]; exact gr_alloc (gr_refl _ _) _
  have RES : Hid (∀ wx, W.grownBy wx none → wx.heap[w.heap.size]? = some (.cells #[.slice none 0 0, .slice none 0 0] 115 (0, 0))) := by
    intro wx hg
    rw [hW] at hg
    rw [hg.block w.heap.size (by simp) (by simp)]
    exact heap_alloc_new _ _
  go_enter Tryz.func143, Tryz.ntmps143
  go_upto_region 1 with fail
  rw [← hW]
  clear hW
  go_wp2_with fail
  refine (mayGo_at _ _ m n q p L W (HY.out.keep0 GW.out) (HX.out.keep0 GW.out) (by omega) (by omega) hmn HQ.out HP.out H1.out).mono ?_
  rintro e w1 ⟨rfl, g1⟩
  have e1 : decide (restS 4294967291 1 (shortL q (m + 1)) (n + 2) (shortL p (n + 1)) = []) = true := decide_eq_true HR1.out
  rw [e1]
  have G1 := hide g1
  clear g1 e1
  go_wp2_with fail
  refine (parted_at _ _ (n + 1) m K p q L w1 (HX.out.keep0 (gr_none GW.out G1.out)) (HY.out.keep0 (gr_none GW.out G1.out)) PQ.out.1 (PQ.out.2 (by omega)) (by omega) (by omega) hm HKK.out hL HFR.out HFO.out).mono ?_
  rintro e w2 ⟨v1, v2, rfl, c1, c2, c3⟩
  rw [HTR.out] at c2
  have C1 := hide c1
  have C2 := hide c2
  have G2 := hide (gr_none G1.out c3)
  obtain ⟨ao, ac, rfl, _⟩ := c1
  obtain ⟨bo, bc, rfl, _⟩ := c2
  clear c3
  go_wp2_with fail
  refine (pzero_at _ 0 _ L w2 C2.out).mono ?_
  rintro e w3 ⟨rfl, rfl⟩
  have ed : decide (0 = 0) = true := rfl
  rw [ed]
  have RB := hide (RES.out _ G2.out)
  obtain ⟨r0, r1, rf⟩ := two_cells RB.out
  have rf0 := rf 0
  have rf1 := rf 1
  obtain ⟨z1, z2, z3⟩ := rw_put2 RB.out (.slice ao K ac) (.slice none 0 0)
  have Z1 := hide z1
  have Z3 := hide z3
  clear z1 z2 z3 rf ed
  go_wp2
  refine bodyPost_ret (v := .agg #[.slice ao K ac, .slice none 0 0]) (by first | (simp [results, Tryz.results143, go_sem, r0, r1]; done) | (simp [results, Tryz.results143, go_sem, r0, r1]; rfl)) rfl ?_
  exact ⟨_, _, _, _, rfl, Z3.out _ _ _ _ C1.out, ⟨_, _, rfl, Nat.le_refl _, by unfold maxLen; omega, fun h => by omega⟩, gr_own2 (gr_none GW.out G2.out) Z1.out (fun b e => by cases e; exact Nat.le_refl _)⟩
end Go.Proofs.YtbihhkcgiepgaaeGreatDoor
