/- synth: farOut; Ladder, at the closed fraction. -/
import Derived.Test.YtbihhkcgiepgaaeGreatDoorMYf
import Derived.Test.YtbihhkcgiepgaaeGreatDoorMPb
namespace Go.Proofs.YtbihhkcgiepgaaeGreatDoor
open Go.RowKit
set_option linter.unusedVariables false
set_option linter.unusedSimpArgs false

set_option maxHeartbeats 4000000 in
set_option maxRecDepth 10000 in
theorem farOut_at (x y : Value) (n : Nat) (p q : Nat → Rat) (k : Rat) (L : Nat) (w : World) (hx : Rw w x n p L) (hy : Rw w y n q L) (hp : ∀ i, n ≤ i → p i = 0) (hq : PL q n) (hn : n ≤ 3000) (hn0 : 0 < n) (hk : p (n - 1) / q (n - 1) = k) (hf : FitW L k) (hL : L ≤ 1000000000000) :
    Calls Tryz.prog 78 #[x, y] w fun e w' => ∃ ao al ac bo bl bc, e = .returned (.tuple #[.agg #[.bool (rB k), .slice ao al ac, .slice bo bl bc], .bool true]) ∧ FQ w' (.agg #[.bool (rB k), .slice ao al ac, .slice bo bl bc]) k L ∧ w.grownBy w' none := by
  have HX := hide hx
  have HY := hide hy
  have HP := hide hp
  have HQ := hide hq
  have HK := hide hk
  have HF := hide hf
  obtain ⟨xo, xc, rfl, hxc, hxm, _⟩ := hx
  obtain ⟨yo, yc, rfl, hyc, hym, _⟩ := hy
  unfold maxLen at hxm hym
  clear hp hq hk hf
  obtain ⟨W, hW⟩ : ∃ W, W = w.alloc (Obj.cells #[.bool false, .slice none 0 0, .slice none 0 0] 107) := ⟨_, rfl⟩
  have GW : Hid (w.grownBy W none) := by rw [hW]; exact gr_alloc (gr_refl _ _) _
  have RES : Hid (∀ wx, W.grownBy wx none → (wx.cell? ⟨w.heap.size, 0, none⟩ = some (.bool false) ∧ wx.cell? ⟨w.heap.size, 1, none⟩ = some (.slice none 0 0) ∧ wx.cell? ⟨w.heap.size, 2, none⟩ = some (.slice none 0 0) ∧ ∀ i, wx.frozen? ⟨w.heap.size, i, none⟩ = false) ∧ NoWords wx w.heap.size) := by
    intro wx hg
    rw [hW] at hg
    exact ⟨res_cells hg, noWords_res hg⟩
  go_enter Tryz.func78, Tryz.ntmps78
  go_upto_region 1 with fail
  rw [← hW]
  clear hW
  go_wp2_with fail
  refine (last_at _ n p L W (HX.out.keep0 GW.out) hn0 hn HP.out).mono ?_
  rintro e w1 ⟨v1, rfl, a1, a2⟩
  obtain ⟨uo, ul, uc, vo, vl, vc, rfl⟩ := a1.shape
  have A1 := hide a1
  have A2 := hide a2
  clear a1 a2
  go_wp2_with fail
  refine (last_at _ n q L w1 (HY.out.keep0 (gr_none GW.out A2.out)) hn0 hn HQ.out.1).mono ?_
  rintro e w2 ⟨v2, rfl, b1, b2⟩
  obtain ⟨bo, bl, bc, co, cl, cc, rfl⟩ := b1.shape
  have B1 := hide b1
  have A3 := hide (A1.out.keep0 b2)
  have G2 := hide (gr_none A2.out b2)
  clear b1 b2
  go_wp2_with fail
  refine (qOver_at _ _ (p (n - 1)) (q (n - 1)) L L w2 A3.out B1.out (HQ.out.2 hn0) (by omega)).mono ?_
  rintro e wf ⟨v6, rfl, f1, f2⟩
  rw [HK.out] at f1
  obtain ⟨fo, fl, fc, fo2, fl2, fc2, rfl⟩ := f1.shape
  have F1 := hide (f1.tight HF.out)
  have G3 := hide (gr_none G2.out f2)
  obtain ⟨⟨r0, r1, r2, rf⟩, nw⟩ := RES.out wf G3.out
  have rf0 := rf 0
  have rf1 := rf 1
  have rf2 := rf 2
  have NW := hide nw
  clear rf f1 f2 nw
  go_wp2
  refine bodyPost_ret (v := .tuple #[.agg #[.bool (rB k), .slice fo fl fc, .slice fo2 fl2 fc2], .bool true]) (by first | (simp [results, Tryz.results78, go_sem, r0, r1, r2]; done) | (simp [results, Tryz.results78, go_sem, r0, r1, r2]; rfl)) rfl ?_
  exact ⟨_, _, _, _, _, _, rfl, FV.other F1.out NW.out gr_three, gr_set (gr_set (gr_set (gr_none GW.out G3.out) _ _ (by simp)) _ _ (by simp)) _ _ (by simp)⟩

def u1 : Nat → Rat := raiseP z1D 1
def u2 : Nat → Rat := raiseP z2D 1
theorem plu1 : PL u1 3 := PL_raise pl1D (by decide)
theorem plu2 : PL u2 2 := PL_raise pl2D (by decide)
theorem fu1 (i : Nat) : FitW 3 (u1 i) := by
  unfold u1 raiseP
  split
  · exact fit0
  · exact f1D _
theorem fu2 (i : Nat) : FitW 3 (u2 i) := by
  unfold u2 raiseP
  split
  · exact fit0
  · exact f2D _
theorem dif1 (i : Nat) : z1U i - 1 * u1 i = z2D i := by
  by_cases h : i < 3
  · have h : i = 0 ∨ i = 1 ∨ i = 2 := by omega
    rcases h with rfl | rfl | rfl <;> decide +kernel
  · rw [pl1U.1 i (by omega), plu1.1 i (by omega), pl2D.1 i (by omega)]
    decide +kernel
theorem dif2 (i : Nat) : z1D i - 1 * u2 i = 0 := by
  by_cases h : i < 2
  · have h : i = 0 ∨ i = 1 := by omega
    rcases h with rfl | rfl <;> decide +kernel
  · rw [pl1D.1 i (by omega), plu2.1 i (by omega)]
    decide +kernel
theorem pl0 : PL (fun _ => (0 : Rat)) 0 := ⟨fun _ _ => rfl, fun h => by omega⟩

def t1 : ByteArray := ⟨#[49]⟩
theorem qt1 : (⟨(qtext 1).toArray⟩ : ByteArray) = t1 := by
  have h : qtext 1 = [49] := by decide +kernel
  rw [h]
  rfl

def LadR (w : World) (ov uv dv pv : Value) (wr : World) : Prop :=
  w.grownBy wr none ∧ ((ov = .slice none 0 0 ∧ Rw wr uv 3 z1U 3 ∧ Rw wr dv 2 z1D 3 ∧ pv = .int .i64 0) ∨ (OwnT wr w.heap.size ov [t1] ∧ Rw wr uv 2 z1D 3 ∧ Rw wr dv 1 z2D 3 ∧ pv = .int .i64 1) ∨ (OwnT wr w.heap.size ov [t1, t1] ∧ Rw wr dv 0 (fun _ => 0) 3 ∧ ∃ uo uc, uv = .slice uo 1 uc ∧ pv = .int .i64 2))

set_option maxHeartbeats 400000 in
theorem mayLie_L (w : World) : Calls Tryz.prog 73 #[.int .i64 2] w fun e w' => e = .returned (.bool true) ∧ w' = w := by
  go_enter Tryz.func73, Tryz.ntmps73
  go_wp2
  go_ret
  exact ⟨rfl, rfl⟩

set_option maxHeartbeats 8000000 in
set_option maxRecDepth 10000 in
theorem ladder1 (uo do_ : Option Addr) (uc dc : Nat) (w : World) (hu : RowG sv w (.slice uo 3 uc) lu1) (hd : RowG sv w (.slice do_ 2 dc) ld1) (hml : MLen w) (ht : Tab10 w) :
    Calls Tryz.prog 24 #[.agg #[.slice uo 3 uc, .slice do_ 2 dc], .int .i64 2] w fun e w' => ∃ v, e = .returned (.tuple #[v, .int .i64 0]) ∧ RowG sv w' v [t1, t1] ∧ w.grownBy w' none := by
  have HU := hide hu
  have HD := hide hd
  have HM := hide hml
  have HT := hide ht
  clear hu hd hml ht
  obtain ⟨W, hW⟩ : ∃ W, W = w.alloc (Obj.cells #[.slice uo 3 uc, .slice do_ 2 dc] 46) := ⟨_, rfl⟩
  have GW : Hid (w.grownBy W none) := by rw [hW]; exact gr_alloc (gr_refl _ _) _
  obtain ⟨s0, s1, _⟩ := two_cells (w := W) (g := w.heap.size) (t := 46) (x := .slice uo 3 uc) (y := .slice do_ 2 dc) (by rw [hW]; exact heap_alloc_new _ _)
  go_enter Tryz.func24, Tryz.ntmps24
  go_upto_region 1 with fail
  rw [← hW]
  clear hW
  go_wp2_with fail
  refine (ofRatio1 uo do_ uc dc W (HU.out.keep GW.out) (HD.out.keep GW.out) (HM.out.keep0 GW.out)).mono ?_
  rintro e w1 ⟨uo1, uc1, do1, dc1, rfl, a1, a2, a3⟩
  have U1 := hide a1
  have D1 := hide a2
  have GW2 := hide (gr_none GW.out a3)
  clear a1 a2 a3 s0 s1
  go_upto_region 2 with fail
  obtain ⟨w2, hw2⟩ : ∃ w2, w2 = w1.alloc (Obj.cells #[.slice uo1 3 uc1, .slice do1 2 dc1] 115) := ⟨_, rfl⟩
  have BG : Hid (w1.grownBy w2 none) := by rw [hw2]; exact gr_alloc (gr_refl _ _) _
  have BX : Hid (∀ wx, w2.grownBy wx none → wx.cell? ⟨w1.heap.size, 0, none⟩ = some (.slice uo1 3 uc1) ∧ wx.cell? ⟨w1.heap.size, 1, none⟩ = some (.slice do1 2 dc1) ∧ ∀ i, wx.frozen? ⟨w1.heap.size, i, none⟩ = false) := by
    intro wx hg
    rw [hw2] at hg
    exact two_cells (by rw [hg.block w1.heap.size (by simp) (by simp)]; exact heap_alloc_new _ _)
  rw [← hw2]
  clear hw2
  have U2 := hide (U1.out.keep0 BG.out)
  have D2 := hide (D1.out.keep0 BG.out)
  obtain ⟨b0, b1, _⟩ := BX.out w2 (gr_refl _ _)
  go_wp2_with (first | (go_at_call 73; refine (mayLie_L _).mono ?_; rintro e w3 ⟨rfl, rfl⟩) | (go_at_call 74; refine (rZero_at uo1 do1 3 uc1 2 dc1 z1U 3 _ U2.out).mono ?_; rintro e w4 ⟨rfl, g4⟩; rw [show decide (3 = 0) = false from rfl]; have G4 := hide g4; clear g4))
  have GG : w4.grownBy w4 none := gr_refl _ _
  have GB4 := hide (gr_none BG.out G4.out)
  obtain ⟨q0, q1, _⟩ := BX.out w4 G4.out
  clear b0 b1
  go_region_held3 (fun w' => w'.cell? ⟨w1.heap.size, 0, none⟩ = some (.slice uo1 3 uc1) ∧ w'.cell? ⟨w1.heap.size, 1, none⟩ = some (.slice do1 2 dc1)) (go_keep)
    (first
      | (go_at_call 66; refine (rUp_at uo1 do1 3 uc1 2 dc1 _).mono ?_; rintro e wl ⟨rfl, gu⟩; have GG : w4.grownBy wl none := gr_none (by first | exact gr_none GG (gr_d _) | exact gr_none GG gr_d1 | exact GG) gu; obtain ⟨q2, q3, _⟩ := BX.out wl (gr_none G4.out GG); clear gu)
      | (go_at_call 68; refine (rDown_at uo1 do1 3 uc1 2 dc1 _ (by decide) (by decide)).mono ?_; rintro e wl ⟨rfl, gu⟩; have GG : w4.grownBy wl none := gr_none (by first | exact gr_none GG (gr_d _) | exact gr_none GG gr_d1 | exact GG) gu; obtain ⟨q2, q3, _⟩ := BX.out wl (gr_none G4.out GG); clear gu))
  all_goals
    have HG := hide (gr_none GW2.out (gr_none GB4.out GG))
    have U5 := hide (U1.out.keep0 (gr_none GB4.out GG))
    have D5 := hide (D1.out.keep0 (gr_none GB4.out GG))
    clear GG q2 q3
    go_wp2
    go_loopw [8, 9, 10, 11] (fun ov uv dv pv wr => Hid (LadR w ov uv dv pv wr)) (fun _ _ dv _ _ => lenOf dv)
    case atStart => exact ⟨HG.out, .inl ⟨rfl, U5.out, D5.out, rfl⟩⟩
    case round =>
      obtain ⟨l1, hcase⟩ := hrel.out
      have L1 := hide l1
      clear hrel l1
      rcases hcase with ⟨rfl, k1, k2, rfl⟩ | ⟨k0, k1, k2, rfl⟩ | ⟨k0, k2, uo9, uc9, rfl, rfl⟩
      · have K1 := hide k1
        have K2 := hide k2
        obtain ⟨xo, xc, rfl, hxc, hxm, _⟩ := k1
        obtain ⟨yo, yc, rfl, hyc, hym, _⟩ := k2
        have OW : Hid (OwnT wr w.heap.size (.slice none 0 0) []) := ownT_nil
        clear hxm hym hxc hyc
        go_wp2_with fail
        refine (pzero_at _ 2 z1D 3 wr K2.out).mono ?_
        rintro e wz ⟨rfl, rfl⟩
        rw [show decide (2 = 0) = false from rfl]
        go_wp2_with fail
        refine (raised_at _ 2 1 z1D 3 wz K2.out pl1D (by decide) (by decide) (by decide)).mono ?_
        rintro e w5 ⟨v5, rfl, r1, r2⟩
        have R1 : Hid (Rw w5 v5 3 u1 3) := r1
        have G5 := hide r2
        obtain ⟨ro, rc, rfl, _⟩ := r1
        clear r2
        go_wp2_with fail
        refine (farOut_at _ _ 3 z1U u1 1 3 w5 (K1.out.keep0 G5.out) R1.out pl1U.1 plu1 (by decide) (by decide) (by decide +kernel) fit1 (by decide)).mono ?_
        rintro e w6 ⟨ao, al, ac, bo, bl, bc, rfl, f1, f2⟩
        have F1 := hide f1
        have G6 := hide (gr_none G5.out f2)
        have R6 := hide (R1.out.keep0 f2)
        clear f1 f2
        go_upto_region 17 with fail
        obtain ⟨w7, hw7⟩ : ∃ w7, w7 = w6.alloc (Obj.cells #[.bool (rB 1), .slice ao al ac, .slice bo bl bc] 107) := ⟨_, rfl⟩
        have G7 : Hid (w6.grownBy w7 none) := by rw [hw7]; exact gr_alloc (gr_refl _ _) _
        have XC : Hid (∀ wx, w7.grownBy wx none → wx.cell? ⟨w6.heap.size, 0, none⟩ = some (.bool (rB 1)) ∧ wx.cell? ⟨w6.heap.size, 1, none⟩ = some (.slice ao al ac) ∧ wx.cell? ⟨w6.heap.size, 2, none⟩ = some (.slice bo bl bc)) := by
          intro wx hg
          rw [hw7] at hg
          exact box_three hg
        rw [← hw7]
        clear hw7
        have F7 := hide (F1.out.keep0 G7.out)
        obtain ⟨x0, x1, x2⟩ := XC.out w7 (gr_refl _ _)
        go_wp2_with fail
        refine (fSign_at _ 1 3 w7 F7.out).mono ?_
        rintro e w8 ⟨rfl, g8⟩
        rw [show (1 : Rat).num.sign = 1 from rfl]
        have G8 := hide g8
        obtain ⟨y0, y1, y2⟩ := XC.out w8 g8
        clear g8 x0 x1 x2
        go_wp2_with fail
        refine (isZero_at _ _ _ _ 3 _ (F7.out.keep0 G8.out)).mono ?_
        rintro e w9 ⟨rfl, g9⟩
        rw [show decide (rN 1 = 0) = false from rfl]
        have G9 := hide (gr_none G8.out g9)
        obtain ⟨z0, z1, z2⟩ := XC.out w9 G9.out
        clear g9 y0 y1 y2
        go_wp2_with fail
        refine (fQ_at _ 1 3 w9 (F7.out.keep0 G9.out) (by decide) (HT.out.keep0 (gr_none L1.out (gr_none G6.out (gr_none G7.out G9.out))))).mono ?_
        rintro e wa ⟨rfl, ga⟩
        have GA := hide (gr_none G6.out (gr_none G7.out (gr_none G9.out ga)))
        have hszz : w.heap.size ≤ wa.heap.size := Nat.le_trans L1.out.size GA.out.size
        have GB : Hid (wz.grownBy (wa.alloc (Obj.cells #[sv ⟨(qtext 1).toArray⟩] 24)) none) := gr_alloc GA.out _
        have G9a := hide (gr_none G9.out ga)
        clear ga z0 z1 z2
        go_wp2_with (at_builtin; refine wpList_append_t _ rfl _ _ 22 rfl w.heap.size Tryz.underlying22 Tryz.infoQ _ [] rfl (OW.out.keep0 GB.out) wa.heap.size ⟨(qtext 1).toArray⟩ rfl (by go_simp) (by decide) (by simp; omega) ?_)
        intro ao8 cap8 wb ho hg hwk
        have HO : Hid (OwnT wb w.heap.size (.slice ao8 1 cap8) [t1]) := by
          have := ho
          rw [qt1] at this
          exact this
        have hne : ∀ b n R, 0 < n → FRow (wa.alloc (Obj.cells #[sv ⟨(qtext 1).toArray⟩] 24)) b n R 3 → some b ≠ (Value.slice none 0 0).ownBlock := fun b n R hn hr => by simp [Value.ownBlock]
        have GBx : Hid (w7.grownBy (wa.alloc (Obj.cells #[sv ⟨(qtext 1).toArray⟩] 24)) none) := gr_alloc G9a.out _
        have KQ := hide ((K2.out.keep0 GB.out).keepT hg hwk (fun b hn hr => hne b _ _ hn hr))
        have KP := hide ((K1.out.keep0 GB.out).keepT hg hwk (fun b hn hr => hne b _ _ hn hr))
        have KR := hide ((R6.out.keep0 (gr_none G7.out GBx.out)).keepT hg hwk (fun b hn hr => hne b _ _ hn hr))
        have KF := hide ((F7.out.keep0 GBx.out).kept hwk)
        have XB : Hid (wb.cell? ⟨w6.heap.size, 0, none⟩ = some (.bool (rB 1)) ∧ wb.cell? ⟨w6.heap.size, 1, none⟩ = some (.slice ao al ac) ∧ wb.cell? ⟨w6.heap.size, 2, none⟩ = some (.slice bo bl bc)) := by
          obtain ⟨x0, x1, x2⟩ := XC.out _ GBx.out
          have hn6 : ∀ j, some (⟨w6.heap.size, j, none⟩ : Addr).block ≠ (Value.slice none 0 0).ownBlock := fun j => by simp [Value.ownBlock]
          exact ⟨hg.cell x0 (hn6 0), hg.cell x1 (hn6 1), hg.cell x2 (hn6 2)⟩
        have G10 : Hid (w.grownBy wb none) := by
          refine gr_trans (r := none) (gr_none L1.out GB.out) hg (fun _ _ e => e) (fun b hb e => ?_)
          simp [Value.ownBlock] at e
        obtain ⟨x0, x1, x2⟩ := XB.out
        clear ho hg hwk hne
        go_wp2_with fail
        refine (scaled_at _ _ 3 u1 1 3 wb KR.out KF.out (by decide) (by decide) plu1.1 (fun i _ => by rw [Rat.one_mul]; exact fu1 i)).mono ?_
        intro e wc hh
        obtain ⟨so, sc, rfl, s1, s2⟩ := (hh.congr (q := u1) (fun i => Rat.one_mul _)).get plu1
        have S1 := hide s1
        have KP2 := hide (KP.out.keep0 s2)
        have KQ2 := hide (KQ.out.keep0 s2)
        have HO2 := hide (HO.out.keep0 s2)
        have G11 := hide (gr_none G10.out s2)
        clear s1 s2 hh x0 x1 x2
        go_wp2_with fail
        refine (pminus_at _ _ 3 3 z1U u1 3 wc KP2.out S1.out (by decide) (by decide) pl1U.1 plu1 (by decide) (fun i => by have := dif1 i; rw [Rat.one_mul] at this; rw [this]; exact f2D i)).mono ?_
        intro e wd hh
        obtain ⟨mo, mc, rfl, m1, m2⟩ := (hh.congr (q := z2D) (fun i => by have := dif1 i; rw [Rat.one_mul] at this; exact this)).get pl2D
        have M1 := hide m1
        have KQ3 := hide (KQ2.out.keep0 m2)
        have HO3 := hide (HO2.out.keep0 m2)
        have G12 := hide (gr_none G11.out m2)
        clear m1 m2 hh
        go_wp2
        go_roundw
        case rel => exact ⟨G12.out, .inr (.inl ⟨HO3.out, KQ3.out, M1.out, rfl⟩)⟩
        case measure => simp [lenOf]
      · have K1 := hide k1
        have K2 := hide k2
        obtain ⟨xo, xc, rfl, hxc, hxm, _⟩ := k1
        obtain ⟨yo, yc, rfl, hyc, hym, _⟩ := k2
        have OW := hide k0
        obtain ⟨oo, oc, eo⟩ := k0.1.shape
        subst eo
        have FRS := hide OW.out.1.fresh
        clear k0
        clear hxm hym hxc hyc
        go_wp2_with fail
        refine (pzero_at _ 1 z2D 3 wr K2.out).mono ?_
        rintro e wz ⟨rfl, rfl⟩
        rw [show decide (1 = 0) = false from rfl]
        go_wp2_with fail
        refine (raised_at _ 1 1 z2D 3 wz K2.out pl2D (by decide) (by decide) (by decide)).mono ?_
        rintro e w5 ⟨v5, rfl, r1, r2⟩
        have R1 : Hid (Rw w5 v5 2 u2 3) := r1
        have G5 := hide r2
        obtain ⟨ro, rc, rfl, _⟩ := r1
        clear r2
        go_wp2_with fail
        refine (farOut_at _ _ 2 z1D u2 1 3 w5 (K1.out.keep0 G5.out) R1.out pl1D.1 plu2 (by decide) (by decide) (by decide +kernel) fit1 (by decide)).mono ?_
        rintro e w6 ⟨ao, al, ac, bo, bl, bc, rfl, f1, f2⟩
        have F1 := hide f1
        have G6 := hide (gr_none G5.out f2)
        have R6 := hide (R1.out.keep0 f2)
        clear f1 f2
        go_upto_region 17 with fail
        obtain ⟨w7, hw7⟩ : ∃ w7, w7 = w6.alloc (Obj.cells #[.bool (rB 1), .slice ao al ac, .slice bo bl bc] 107) := ⟨_, rfl⟩
        have G7 : Hid (w6.grownBy w7 none) := by rw [hw7]; exact gr_alloc (gr_refl _ _) _
        have XC : Hid (∀ wx, w7.grownBy wx none → wx.cell? ⟨w6.heap.size, 0, none⟩ = some (.bool (rB 1)) ∧ wx.cell? ⟨w6.heap.size, 1, none⟩ = some (.slice ao al ac) ∧ wx.cell? ⟨w6.heap.size, 2, none⟩ = some (.slice bo bl bc)) := by
          intro wx hg
          rw [hw7] at hg
          exact box_three hg
        rw [← hw7]
        clear hw7
        have F7 := hide (F1.out.keep0 G7.out)
        obtain ⟨x0, x1, x2⟩ := XC.out w7 (gr_refl _ _)
        go_wp2_with fail
        refine (fSign_at _ 1 3 w7 F7.out).mono ?_
        rintro e w8 ⟨rfl, g8⟩
        rw [show (1 : Rat).num.sign = 1 from rfl]
        have G8 := hide g8
        obtain ⟨y0, y1, y2⟩ := XC.out w8 g8
        clear g8 x0 x1 x2
        go_wp2_with fail
        refine (isZero_at _ _ _ _ 3 _ (F7.out.keep0 G8.out)).mono ?_
        rintro e w9 ⟨rfl, g9⟩
        rw [show decide (rN 1 = 0) = false from rfl]
        have G9 := hide (gr_none G8.out g9)
        obtain ⟨z0, z1, z2⟩ := XC.out w9 G9.out
        clear g9 y0 y1 y2
        go_wp2_with fail
        refine (fQ_at _ 1 3 w9 (F7.out.keep0 G9.out) (by decide) (HT.out.keep0 (gr_none L1.out (gr_none G6.out (gr_none G7.out G9.out))))).mono ?_
        rintro e wa ⟨rfl, ga⟩
        have GA := hide (gr_none G6.out (gr_none G7.out (gr_none G9.out ga)))
        have hszz : w.heap.size ≤ wa.heap.size := Nat.le_trans L1.out.size GA.out.size
        have GB : Hid (wz.grownBy (wa.alloc (Obj.cells #[sv ⟨(qtext 1).toArray⟩] 24)) none) := gr_alloc GA.out _
        have G9a := hide (gr_none G9.out ga)
        clear ga z0 z1 z2
        go_wp2_with (at_builtin; refine wpList_append_t _ rfl _ _ 22 rfl w.heap.size Tryz.underlying22 Tryz.infoQ _ [t1] rfl (OW.out.keep0 GB.out) wa.heap.size ⟨(qtext 1).toArray⟩ rfl (by go_simp) (by decide) (by simp; omega) ?_)
        intro ao8 cap8 wb ho hg hwk
        have HO : Hid (OwnT wb w.heap.size (.slice ao8 2 cap8) [t1, t1]) := by
          have := ho
          rw [qt1] at this
          exact this
        have hne : ∀ b n R, 0 < n → FRow (wa.alloc (Obj.cells #[sv ⟨(qtext 1).toArray⟩] 24)) b n R 3 → some b ≠ (Value.slice oo ([t1] : List ByteArray).length oc).ownBlock := fun b n R hn hr => (OW.out.keep0 GB.out).apart (by decide) hr hn
        have GBx : Hid (w7.grownBy (wa.alloc (Obj.cells #[sv ⟨(qtext 1).toArray⟩] 24)) none) := gr_alloc G9a.out _
        have KQ := hide ((K2.out.keep0 GB.out).keepT hg hwk (fun b hn hr => hne b _ _ hn hr))
        have KP := hide ((K1.out.keep0 GB.out).keepT hg hwk (fun b hn hr => hne b _ _ hn hr))
        have KR := hide ((R6.out.keep0 (gr_none G7.out GBx.out)).keepT hg hwk (fun b hn hr => hne b _ _ hn hr))
        have KF := hide ((F7.out.keep0 GBx.out).kept hwk)
        have XB : Hid (wb.cell? ⟨w6.heap.size, 0, none⟩ = some (.bool (rB 1)) ∧ wb.cell? ⟨w6.heap.size, 1, none⟩ = some (.slice ao al ac) ∧ wb.cell? ⟨w6.heap.size, 2, none⟩ = some (.slice bo bl bc)) := by
          obtain ⟨x0, x1, x2⟩ := XC.out _ GBx.out
          have hn6 : ∀ j, some (⟨w6.heap.size, j, none⟩ : Addr).block ≠ (Value.slice oo ([t1] : List ByteArray).length oc).ownBlock := fun j => fun e => by have h1 := (FRS.out _ e.symm).2; have h2 := G6.out.size; simp only at h1; omega
          exact ⟨hg.cell x0 (hn6 0), hg.cell x1 (hn6 1), hg.cell x2 (hn6 2)⟩
        have G10 : Hid (w.grownBy wb none) := by
          refine gr_trans (r := none) (gr_none L1.out GB.out) hg (fun _ _ e => e) (fun b hb e => ?_)
          have := (FRS.out b e.symm).1
          omega
        obtain ⟨x0, x1, x2⟩ := XB.out
        clear ho hg hwk hne
        go_wp2_with fail
        refine (scaled_at _ _ 2 u2 1 3 wb KR.out KF.out (by decide) (by decide) plu2.1 (fun i _ => by rw [Rat.one_mul]; exact fu2 i)).mono ?_
        intro e wc hh
        obtain ⟨so, sc, rfl, s1, s2⟩ := (hh.congr (q := u2) (fun i => Rat.one_mul _)).get plu2
        have S1 := hide s1
        have KP2 := hide (KP.out.keep0 s2)
        have KQ2 := hide (KQ.out.keep0 s2)
        have HO2 := hide (HO.out.keep0 s2)
        have G11 := hide (gr_none G10.out s2)
        clear s1 s2 hh x0 x1 x2
        go_wp2_with fail
        refine (pminus_at _ _ 2 2 z1D u2 3 wc KP2.out S1.out (by decide) (by decide) pl1D.1 plu2 (by decide) (fun i => by have := dif2 i; rw [Rat.one_mul] at this; rw [this]; exact fit0)).mono ?_
        intro e wd hh
        obtain ⟨mo, mc, rfl, m1, m2⟩ := (hh.congr (q := (fun _ => 0)) (fun i => by have := dif2 i; rw [Rat.one_mul] at this; exact this)).get pl0
        have M1 := hide m1
        have KQ3 := hide (KQ2.out.keep0 m2)
        have HO3 := hide (HO2.out.keep0 m2)
        have G12 := hide (gr_none G11.out m2)
        clear m1 m2 hh
        go_wp2
        go_roundw
        case rel => exact ⟨G12.out, .inr (.inr ⟨HO3.out, M1.out, _, _, rfl, rfl⟩)⟩
        case measure => simp [lenOf]
      · have K2 := hide k2
        have OW := hide k0
        obtain ⟨yo, yc, rfl, _⟩ := k2
        obtain ⟨oo, oc, eo⟩ := k0.1.shape
        subst eo
        clear k0
        go_wp2_with fail
        refine (pzero_at _ 0 (fun _ => 0) 3 wr K2.out).mono ?_
        rintro e wz ⟨rfl, rfl⟩
        rw [show decide (0 = 0) = true from rfl]
        go_wp2
        go_ret2
        exact ⟨_, rfl, OW.out.1.row, L1.out⟩
end Go.Proofs.YtbihhkcgiepgaaeGreatDoor
