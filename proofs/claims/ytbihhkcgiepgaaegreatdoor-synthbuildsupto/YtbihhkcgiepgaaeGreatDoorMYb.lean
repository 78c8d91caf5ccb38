/- frac: Left: what is left of a fraction where whole numbers are counted up to a prime only. -/
import Derived.Test.YtbihhkcgiepgaaeGreatDoorMYa
import Derived.Test.YtbihhkcgiepgaaeGreatDoorMFf
import Derived.Test.YtbihhkcgiepgaaeGreatDoorMFe
import Derived.Test.YtbihhkcgiepgaaeGreatDoorMPa
import Derived.Deep.RegionHeld3
namespace Go.Proofs.YtbihhkcgiepgaaeGreatDoor
open Go.RowKit
set_option linter.unusedVariables false
set_option linter.unusedSimpArgs false

/-- What is left of q above the bar, with its sign. -/
def leftU (p : Nat) (q : Rat) : Nat := if rB q = true ∧ 0 < rN q % p then p - rN q % p else rN q % p

/-- What is left of q, if what is below the bar isn't 0. -/
def leftV (p : Nat) (q : Rat) : Nat := leftU p q * turnN (q.den % p) p % p

theorem leftU_lt (p : Nat) (q : Rat) (h : 0 < p) : leftU p q < p := by
  unfold leftU
  have := Nat.mod_lt (rN q) h
  split <;> omega

/-- What Left answers. -/
def LfqE (w : World) (p : Nat) (q : Rat) (e : Ending) (w' : World) : Prop :=
  w.grownBy w' none ∧ ((q.den % p = 0 ∧ e = .returned (.tuple #[.int .u32 0, .bool false])) ∨ (q.den % p ≠ 0 ∧ e = .returned (.tuple #[.int .u32 ((leftV p q : Nat) : Int), .bool true])))

set_option maxHeartbeats 4000000 in
set_option maxRecDepth 10000 in
theorem fLeft_at (x : Value) (q : Rat) (L p : Nat) (w : World) (hx : FQ w x q L) (hp : 2 ≤ p) (hp2 : p < 4294967296) :
    Calls Tryz.prog 335 #[x, .int .u32 (p : Nat)] w fun e w' => LfqE w p q e w' := by
  have HX := hide hx
  obtain ⟨uo, ul, uc, do_, dl, dc, rfl⟩ := hx.shape
  have HU : Hid (Num w (.slice uo ul uc) (rN q) L) := by
    obtain ⟨up, down, e, h1, _⟩ := hx
    simp only [Value.agg.injEq, Array.mk.injEq, List.cons.injEq, and_true, true_and] at e
    obtain ⟨rfl, rfl⟩ := e
    exact h1
  clear hx
  obtain ⟨W, hW⟩ : ∃ W, W = w.alloc (Obj.cells #[.bool (rB q), .slice uo ul uc, .slice do_ dl dc] 107) := ⟨_, rfl⟩
  have GW : Hid (w.grownBy W none) := by rw [hW]; exact gr_alloc (gr_refl _ _) _
  have CX : Hid (∀ wx, W.grownBy wx none → wx.cell? ⟨w.heap.size, 0, none⟩ = some (.bool (rB q)) ∧ wx.cell? ⟨w.heap.size, 1, none⟩ = some (.slice uo ul uc) ∧ wx.cell? ⟨w.heap.size, 2, none⟩ = some (.slice do_ dl dc)) := by
    intro wx hg
    rw [hW] at hg
    exact box_three hg
  obtain ⟨s0, s1, s2⟩ := CX.out W (gr_refl _ _)
  go_enter Tryz.func335, Tryz.ntmps335
  go_upto_region 1 with fail
  rw [← hW]
  clear hW
  go_wp2_with fail
  refine (bar_at _ _ _ _ L W (HX.out.keep0 GW.out)).mono ?_
  rintro e w1 ⟨v1, rfl, b1, b2⟩
  obtain ⟨bo, bl, bc, rfl, _⟩ := b1.shape
  obtain ⟨ds, d1, d2, d3, d4⟩ := b1
  have D1 := hide d1
  have D3 := hide d3
  have B2 := hide b2
  clear s0 s1 s2 d1 d2 d3 d4 b2
  go_wp2_with fail
  refine (nleft_at _ ds p w1 D1.out (by omega) hp2).mono ?_
  rintro e w2 ⟨rfl, b3⟩
  rw [D3.out]
  have G2 := hide (gr_none B2.out b3)
  obtain ⟨s0, s1, s2⟩ := CX.out w2 G2.out
  have hdl : q.den % p < p := Nat.mod_lt _ (by omega)
  obtain ⟨dn, edn⟩ : ∃ dn, dn = q.den % p := ⟨_, rfl⟩
  rw [← edn] at hdl ⊢
  have EDN := hide edn
  clear b3 edn
  by_cases h0 : dn = 0
  · subst h0
    go_wp2
    go_ret2
    exact ⟨gr_none GW.out G2.out, .inl ⟨EDN.out.symm, rfl⟩⟩
  · have hb : (((dn : Nat) : Int) == 0) = false := beq_eq_false_iff_ne.2 (by omega)
    go_wp2_with fail
    obtain ⟨us, u1, u2, u3, u4⟩ := HU.out.keep0 (gr_none GW.out G2.out)
    have U3 := hide u3
    refine (nleft_at _ us p w2 u1 (by omega) hp2).mono ?_
    rintro e w3 ⟨rfl, b4⟩
    rw [U3.out]
    have G3 := hide (gr_none G2.out b4)
    obtain ⟨t0, t1, t2⟩ := CX.out w3 G3.out
    have hul : rN q % p < p := Nat.mod_lt _ (by omega)
    obtain ⟨un, eun⟩ : ∃ un, un = rN q % p := ⟨_, rfl⟩
    rw [← eun] at hul ⊢
    have EUN := hide eun
    clear b4 eun s0 s1 s2 u1 u2 u3 u4
    have key : Hid (∀ u : Nat, u = leftU p q → leftV p q = u * turnN dn p % p) := by
      intro u hu
      unfold leftV
      rw [hu, EDN.out]
    have KU : Hid (leftU p q = if rB q = true ∧ 0 < un then p - un else un) := by show _ = _; unfold leftU; rw [EUN.out]
    have htl : turnN dn p < 4294967296 := Nat.lt_trans (turnN_lt _ _ (by omega)) hp2
    obtain ⟨tn, etn⟩ : ∃ tn, tn = turnN dn p := ⟨_, rfl⟩
    rw [← etn] at htl
    have ETN := hide etn.symm
    rw [← etn] at key
    clear etn
    have fin : Hid (∀ u : Nat, u < 4294967296 → ((u : Int) * (tn : Int) ≤ 18446744065119617025 ∧ (0 : Int) ≤ (u : Int) * (tn : Int)) ∧ ∃ r : Nat, ((u : Int) * (tn : Int)) % (p : Int) = (r : Int) ∧ r < p ∧ Hid (u * tn % p = r)) := by
      intro u hu
      refine ⟨⟨mul_bd u tn hu htl, Int.mul_nonneg (by omega) (by omega)⟩, u * tn % p, by rw [Int.natCast_emod, Int.natCast_mul], Nat.mod_lt _ (by omega), rfl⟩
    have hdb : dn < 4294967296 := by omega
    by_cases hn : rB q = true
    · rw [hn] at t0
      rw [hn] at KU
      by_cases hu0 : un = 0
      · have KU2 : Hid (un = leftU p q) := by show _ = _; rw [KU.out, if_neg (by omega)]
        subst hu0
        go_wp2_with (go_at_call 337; refine (turned_at dn p _ hp hp2 hdb).mono ?_; rintro e w4 ⟨rfl, rfl⟩; rw [ETN.out])
        go_ret2
        refine ⟨gr_none GW.out G3.out, .inr ⟨by rw [← EDN.out]; exact h0, ?_⟩⟩
        rw [key.out _ KU2.out, Nat.zero_mul, Nat.zero_mod]
        simp
      · have KU2 : Hid (p - un = leftU p q) := by show _ = _; rw [KU.out, if_pos ⟨rfl, by omega⟩]
        obtain ⟨z, hz⟩ : ∃ z, z = p - un := ⟨_, rfl⟩
        have hzi : ((p : Int) - (un : Int)) = (z : Int) := by omega
        have hzl : z < 4294967296 := by omega
        rw [← hz] at KU2
        obtain ⟨⟨m1, m2⟩, r, m3, m4, m5⟩ := fin.out z hzl
        have hup : (decide ((0 : Int) < (un : Int))) = true := decide_eq_true (by omega)
        clear hz
        go_wp2_with (go_at_call 337; refine (turned_at dn p _ hp hp2 hdb).mono ?_; rintro e w4 ⟨rfl, rfl⟩; rw [ETN.out])
        go_ret2
        refine ⟨gr_none GW.out G3.out, .inr ⟨by rw [← EDN.out]; exact h0, ?_⟩⟩
        rw [key.out _ KU2.out, m5.out]
        first | rfl | (simp; omega)
    · have hn' : rB q = false := by simpa using hn
      have KU2 : Hid (un = leftU p q) := by show _ = _; rw [KU.out, if_neg (fun h => hn h.1)]
      rw [hn'] at t0
      obtain ⟨⟨m1, m2⟩, r, m3, m4, m5⟩ := fin.out un (by omega)
      clear hn hn'
      go_wp2_with (go_at_call 337; refine (turned_at dn p _ hp hp2 hdb).mono ?_; rintro e w4 ⟨rfl, rfl⟩; rw [ETN.out])
      go_ret2
      refine ⟨gr_none GW.out G3.out, .inr ⟨by rw [← EDN.out]; exact h0, ?_⟩⟩
      rw [key.out _ KU2.out, m5.out]
      first | rfl | (simp; omega)
end Go.Proofs.YtbihhkcgiepgaaeGreatDoor

namespace Go.Proofs.YtbihhkcgiepgaaeGreatDoor
open Go.RowKit
set_option linter.unusedVariables false
set_option linter.unusedSimpArgs false

/-- The numbers of a polynomial, counted so. -/
def shortL (p : Nat → Rat) (n : Nat) : List Nat := (List.range n).map fun i => leftV 4294967291 (p i)

theorem shortL_length (p : Nat → Rat) (n : Nat) : (shortL p n).length = n := by simp [shortL]
theorem shortL_succ (p : Nat → Rat) (n : Nat) : shortL p (n + 1) = shortL p n ++ [leftV 4294967291 (p n)] := by simp [shortL, List.range_succ]
theorem leftV_lt (p : Nat) (q : Rat) (h : 0 < p) : leftV p q < p := Nat.mod_lt _ h
theorem shortL_sm (p : Nat → Rat) (n : Nat) : Sm (shortL p n) := by
  intro x hx
  simp only [shortL, List.mem_map] at hx
  obtain ⟨i, _, rfl⟩ := hx
  exact Nat.lt_trans (leftV_lt _ _ (by decide)) (by decide)

def ShoR (w : World) (g n : Nat) (p : Nat → Rat) (v : Value) (wr : World) : Prop :=
  ∃ i : Nat, i ≤ n ∧ v = .int .i64 i ∧ Arr wr g (shortL p i ++ List.replicate (n - i) 0) ∧ w.grownBy wr none

set_option maxHeartbeats 4000000 in
set_option maxRecDepth 10000 in
theorem inShort_at (x : Value) (n : Nat) (p : Nat → Rat) (L : Nat) (w : World) (hx : Rw w x (n + 1) p L) (hn : n ≤ 3000) (hden : ∀ i, i ≤ n → (p i).den % 4294967291 ≠ 0) :
    Calls Tryz.prog 292 #[x] w fun e w' => ∃ v, e = .returned (.tuple #[v, .bool (decide (leftV 4294967291 (p n) ≠ 0))]) ∧ Ws w' v (shortL p (n + 1)) ∧ w.grownBy w' none := by
  have HX := hide hx
  have HD := hide hden
  obtain ⟨xo, xc, rfl, hc, hm, h3⟩ := hx
  obtain ⟨gx, ex, hr⟩ := h3 (by omega)
  subst ex
  have hgl := hr.lt
  have HR := hide hr
  unfold maxLen at hm
  clear hr h3 hden
  obtain ⟨N, hN⟩ : ∃ N, N = n + 1 := ⟨_, rfl⟩
  rw [← hN] at hc HR HX ⊢
  have HN := hide hN
  have hNl : N ≤ 3001 := by omega
  have hN0 : 0 < N := by omega
  clear hN
  go_enter Tryz.func292, Tryz.ntmps292
  go_wp2_with (at_make; refine wpList_make_words _ rfl _ _ 303 rfl Tryz.underlying303 Tryz.info32 _ _ _ _ N rfl rfl (by omega) (by omega) (by omega) ?_)
  intro w1 harr hgr
  obtain ⟨g, hg⟩ : ∃ g, g = w.heap.size := ⟨_, rfl⟩
  rw [← hg] at harr ⊢
  have HG0 := hide hg
  have HA := hide harr
  have HG := hide hgr
  clear harr hgr hg
  go_wp2
  go_loopw [14] (fun v wr => Hid (ShoR w g N p v wr)) (fun v _ => N - (intOf v).toNat)
  case atStart => exact ⟨0, by omega, rfl, HA.out, HG.out⟩
  case round =>
    obtain ⟨i, hi, rfl, i1, i2⟩ := hrel.out
    have I1 := hide i1
    have I2 := hide i2
    clear hrel i1 i2
    by_cases hlt : i < N
    · obtain ⟨uo, ul, uc, do_, dl, dc, c0, c1, c2, c3, _⟩ := (HR.out.keep0 I2.out).at i hlt
      have C3 := hide c3
      clear c3
      go_upto_region 5 with fail
      obtain ⟨w2, hw2⟩ : ∃ w2, w2 = wr.alloc (Obj.cells #[.bool (rB (p i)), .slice uo ul uc, .slice do_ dl dc] 107) := ⟨_, rfl⟩
      have G2 : Hid (wr.grownBy w2 none) := by rw [hw2]; exact gr_alloc (gr_refl _ _) _
      have XC : Hid (w2.cell? ⟨wr.heap.size, 0, none⟩ = some (.bool (rB (p i))) ∧ w2.cell? ⟨wr.heap.size, 1, none⟩ = some (.slice uo ul uc) ∧ w2.cell? ⟨wr.heap.size, 2, none⟩ = some (.slice do_ dl dc)) := by
        have hg : (wr.alloc (Obj.cells #[.bool (rB (p i)), .slice uo ul uc, .slice do_ dl dc] 107)).grownBy w2 none := by rw [← hw2]; exact gr_refl _ _
        exact box_three hg
      rw [← hw2]
      clear hw2 c0 c1 c2
      obtain ⟨x0, x1, x2⟩ := XC.out
      go_wp2_with fail
      refine (fLeft_at _ (p i) L 4294967291 w2 (C3.out.keep0 G2.out) (by decide) (by decide)).mono ?_
      rintro e w3 ⟨g3, (⟨hd, rfl⟩ | ⟨hd, rfl⟩)⟩
      · exact absurd hd (HD.out i (by have := HN.out; omega))
      obtain ⟨q, hq⟩ : ∃ q, q = leftV 4294967291 (p i) := ⟨_, rfl⟩
      rw [← hq]
      have hql : q < 4294967296 := by rw [hq]; exact Nat.lt_trans (leftV_lt _ _ (by decide)) (by decide)
      have HQ := hide hq
      have G3 := hide (gr_none G2.out g3)
      have A3 := hide (I1.out.keep G3.out (by simp))
      have hgl3 := A3.out.lt
      have hl3 : (shortL p i ++ List.replicate (N - i) 0).length = N := by rw [List.length_append, shortL_length, List.length_replicate]; omega
      have hcg := A3.out.cell i (by rw [hl3]; exact hlt)
      have hfg := A3.out.free i
      obtain ⟨old, hold⟩ : ∃ old, old = (shortL p i ++ List.replicate (N - i) 0)[i]'(by rw [hl3]; exact hlt) := ⟨_, rfl⟩
      rw [← hold] at hcg
      clear x0 x1 x2 g3 hq hold hl3 hd
      go_wp2
      go_roundw
      case rel =>
        refine ⟨i + 1, by omega, by go_num, ?_, gr_set (gr_none I2.out G3.out) _ _ (by have := HG0.out; simp; omega)⟩
        have := A3.out.set i q
        rw [set_front _ _ _ _ (shortL_length p i) (by omega)] at this
        rw [shortL_succ, ← HQ.out, show N - (i + 1) = N - i - 1 from by omega]
        exact this
      case measure => simp [intOf]; omega
    · obtain rfl : i = N := by omega
      have I3 : Hid (Arr wr g (shortL p i)) := by
        have := I1.out
        rw [Nat.sub_self, List.replicate_zero, List.append_nil] at this
        exact this
      have hj := HN.out
      subst hj
      have hcg := I3.out.cell n (by rw [shortL_length]; omega)
      have eq1 : (shortL p (n + 1))[n]'(by rw [shortL_length]; omega) = leftV 4294967291 (p n) := by simp [shortL]
      rw [eq1] at hcg
      obtain ⟨q, hq⟩ : ∃ q, q = leftV 4294967291 (p n) := ⟨_, rfl⟩
      rw [← hq] at hcg
      have HQ := hide hq
      have hn0 : (((n + 1 : Nat) : Int) == 0) = false := beq_eq_false_iff_ne.2 (by omega)
      clear eq1 hq
      go_wp2
      have hi1 : (0 : Int) ≤ ((n : Nat) : Int) := by omega
      have hi2 : ((n : Nat) : Int) < ((n : Nat) : Int) + 1 := by omega
      have hwr : IntKind.i64.wrap ((n : Nat) : Int) = ((n : Nat) : Int) := IntWalk.i64_in _ ⟨by omega, by omega⟩
      go_region_held3 (fun w' => w'.cell? ⟨g, n, none⟩ = some (.int .u32 (q : Nat))) (go_keep) (fail)
      all_goals
        go_wp2
        go_ret2
        have hws := I3.out.ws (shortL_sm p (n + 1)) (by rw [shortL_length]; unfold maxLen; omega)
        rw [shortL_length] at hws
        refine ⟨.slice (some ⟨g, 0, none⟩) (n + 1) (n + 1), ?_, hws.keep0 (gr_d _), gr_none I2.out (gr_d _)⟩
        have e1 : (((n : Nat) : Int) + 1 == 0) = false := beq_eq_false_iff_ne.2 (by omega)
        have e2 : (((q : Nat) : Int) != 0) = decide (leftV 4294967291 (p n) ≠ 0) := by
          rw [← HQ.out]
          by_cases h : q = 0
          · subst h; rfl
          · rw [decide_eq_true h]
            exact bne_iff_ne.2 (by omega)
        simp only [Array.getD, List.size_toArray, List.length_cons, List.length_nil]
        rw [← e2]
        simp [e1]
end Go.Proofs.YtbihhkcgiepgaaeGreatDoor

namespace Go.Proofs.YtbihhkcgiepgaaeGreatDoor
open Go.RowKit
set_option linter.unusedVariables false
set_option linter.unusedSimpArgs false

/-- A polynomial whose numbers can be counted up to the prime. -/
structure Sho (p : Nat → Rat) (n : Nat) : Prop where
  den : ∀ i, i ≤ n → (p i).den % 4294967291 ≠ 0
  top : leftV 4294967291 (p n) ≠ 0

theorem shortL_top (p : Nat → Rat) (n : Nat) : (shortL p (n + 1)).getD ((shortL p (n + 1)).length - 1) 0 = leftV 4294967291 (p n) := by
  rw [shortL_length, Nat.add_sub_cancel, getD_in _ _ (by rw [shortL_length]; omega)]
  simp [shortL]

/-- What is left of x, divided by y, whose last number is 1. -/
theorem rest_one (x y : Value) (xs ys : List Nat) (w : World) (hx : Ws w x xs) (hy : Ws w y ys) (hy0 : 0 < ys.length) (hl : xs.length ≤ 1000000) (hl2 : ys.length ≤ 1000000) (ht : ys.getD (ys.length - 1) 0 = 1) :
    Calls Tryz.prog 293 #[x, y] w fun e w' => ∃ v, e = .returned v ∧ Ws w' v (restS 4294967291 1 ys (xs.length + 1) xs) ∧ w.grownBy w' none :=
  rest_at x y xs ys w hx hy hy0 hl hl2 1 (by rw [ht, turnN_one _ (by decide)]) (by rw [ht])

set_option maxHeartbeats 4000000 in
set_option maxRecDepth 10000 in
theorem mayGo_at (y x : Value) (m n : Nat) (q p : Nat → Rat) (L : Nat) (w : World) (hy : Rw w y (m + 1) q L) (hx : Rw w x (n + 1) p L) (hm : m ≤ 3000) (hn : n ≤ 3000) (hmn : m ≤ n) (hq : Sho q m) (hp : Sho p n) (h1 : leftV 4294967291 (q m) = 1) :
    Calls Tryz.prog 218 #[y, x] w fun e w' => e = .returned (.bool (decide (restS 4294967291 1 (shortL q (m + 1)) (n + 2) (shortL p (n + 1)) = []))) ∧ w.grownBy w' none := by
  have HX := hide hx
  have HY := hide hy
  have HQ := hide hq
  have HP := hide hp
  have H1 := hide h1
  obtain ⟨xo, xc, rfl, hxc, hxm, _⟩ := hx
  obtain ⟨yo, yc, rfl, hyc, hym, _⟩ := hy
  unfold maxLen at hxm hym
  clear hq hp h1
  go_enter Tryz.func218, Tryz.ntmps218
  go_wp2_with fail
  refine (inShort_at _ n p L w HX.out hn HP.out.den).mono ?_
  rintro e w1 ⟨v1, rfl, a1, a2⟩
  rw [decide_eq_true HP.out.top]
  obtain ⟨ao, ac, ea, _⟩ := a1.open
  rw [shortL_length] at ea
  subst ea
  have A1 := hide a1
  have A2 := hide a2
  clear a1 a2
  go_wp2_with fail
  refine (inShort_at _ m q L w1 (HY.out.keep0 A2.out) hm HQ.out.den).mono ?_
  rintro e w2 ⟨v2, rfl, b1, b2⟩
  rw [decide_eq_true HQ.out.top]
  obtain ⟨bo, bc, eb, _⟩ := b1.open
  rw [shortL_length] at eb
  subst eb
  have B1 := hide b1
  have A3 := hide (A1.out.keep0 b2)
  have G2 := hide (gr_none A2.out b2)
  clear b1 b2
  go_wp2_with fail
  refine (rest_one _ _ _ _ w2 A3.out B1.out (by rw [shortL_length]; omega) (by rw [shortL_length]; omega) (by rw [shortL_length]; omega) (by rw [shortL_top]; exact H1.out)).mono ?_
  rintro e w3 ⟨v3, rfl, c1, c2⟩
  rw [shortL_length] at c1
  obtain ⟨rs, ers⟩ : ∃ rs, rs = restS 4294967291 1 (shortL q (m + 1)) (n + 2) (shortL p (n + 1)) := ⟨_, rfl⟩
  have e0 : n + 1 + 1 = n + 2 := rfl
  rw [e0, ← ers] at c1
  obtain ⟨co, cc, ec, hcc, hcm, _⟩ := c1.open
  subst ec
  have G3 := hide (gr_none G2.out c2)
  have ERS := hide ers
  have hcl : rs.length ≤ cc := hcc
  unfold maxLen at hcm
  clear c1 c2 ers
  by_cases h0 : rs = []
  · subst h0
    go_wp2
    go_ret
    exact ⟨by rw [← ERS.out]; rfl, G3.out⟩
  · have hb : (((rs.length : Nat) : Int) == 0) = false := beq_eq_false_iff_ne.2 (by have := List.length_pos_iff.2 h0; omega)
    go_wp2
    go_ret
    refine ⟨?_, G3.out⟩
    rw [← ERS.out, decide_eq_false h0]
    first | rfl | simp [hb]

def MosR (w : World) (xs bs : List Nat) (a b : Value) (wr : World) : Prop :=
  w.grownBy wr none ∧ ((Ws wr a xs ∧ Ws wr b bs) ∨ (Ws wr a bs ∧ Ws wr b [1]) ∨ (Ws wr a [1] ∧ Ws wr b []))

set_option maxHeartbeats 4000000 in
set_option maxRecDepth 10000 in
theorem most_at (x y : Value) (n m : Nat) (p q : Nat → Rat) (L : Nat) (w : World) (hx : Rw w x (n + 1) p L) (hy : Rw w y (m + 1) q L) (hm : m ≤ 3000) (hn : n ≤ 3000) (hm1 : 1 ≤ m) (hn1 : 1 ≤ n) (hq : Sho q m) (hp : Sho p n) (h1 : leftV 4294967291 (q m) = 1)
    (hr1 : restS 4294967291 1 (shortL q (m + 1)) (n + 2) (shortL p (n + 1)) = [1]) (hr2 : restS 4294967291 1 [1] (m + 2) (shortL q (m + 1)) = []) :
    Calls Tryz.prog 295 #[x, y] w fun e w' => e = .returned (.int .i64 0) ∧ w.grownBy w' none := by
  have HX := hide hx
  have HY := hide hy
  have HQ := hide hq
  have HP := hide hp
  have H1 := hide h1
  have HR1 := hide hr1
  have HR2 := hide hr2
  obtain ⟨xo, xc, rfl, hxc, hxm, _⟩ := hx
  obtain ⟨yo, yc, rfl, hyc, hym, _⟩ := hy
  unfold maxLen at hxm hym
  clear hq hp h1 hr1 hr2
  obtain ⟨k, hk⟩ : ∃ k, min n m = k + 1 := ⟨min n m - 1, by omega⟩
  have hmin : min ((n + 1 : Nat) : Int) ((m + 1 : Nat) : Int) = ((k + 2 : Nat) : Int) := by omega
  have hk0 : ((((k + 2 : Nat) : Int) - 1) == 0) = false := beq_eq_false_iff_ne.2 (by omega)
  have hkl : k ≤ 3000 := by omega
  clear hk
  go_enter Tryz.func295, Tryz.ntmps295
  go_wp2_with fail
  refine (inShort_at _ n p L w HX.out hn HP.out.den).mono ?_
  rintro e w1 ⟨v1, rfl, a1, a2⟩
  rw [decide_eq_true HP.out.top]
  obtain ⟨ao, ac, ea, _⟩ := a1.open
  rw [shortL_length] at ea
  subst ea
  have A1 := hide a1
  have A2 := hide a2
  clear a1 a2
  go_wp2_with fail
  refine (inShort_at _ m q L w1 (HY.out.keep0 A2.out) hm HQ.out.den).mono ?_
  rintro e w2 ⟨v2, rfl, b1, b2⟩
  rw [decide_eq_true HQ.out.top]
  obtain ⟨bo, bc, eb, _⟩ := b1.open
  rw [shortL_length] at eb
  subst eb
  have B1 := hide b1
  have A3 := hide (A1.out.keep0 b2)
  have G2 := hide (gr_none A2.out b2)
  clear b1 b2
  go_wp2
  go_loopw [6, 8] (fun a b wr => Hid (MosR w (shortL p (n + 1)) (shortL q (m + 1)) a b wr)) (fun _ b _ => lenOf b)
  case atStart => exact ⟨G2.out, .inl ⟨A3.out, B1.out⟩⟩
  case round =>
    obtain ⟨g1, h⟩ := hrel.out
    have G1 := hide g1
    clear hrel g1 hmin hk0
    rcases h with ⟨k1, k2⟩ | ⟨k1, k2⟩ | ⟨k1, k2⟩
    · have K1 := hide k1
      have K2 := hide k2
      obtain ⟨o1, c1, rfl, _, _, _⟩ := k1.open
      obtain ⟨o2, c2, rfl, d1, d2, _⟩ := k2.open
      unfold maxLen at d2
      rw [shortL_length] at d1
      clear k1 k2
      rw [shortL_length, shortL_length]
      rw [shortL_length] at K1 K2
      go_wp2_with (go_at_call 293; refine (rest_one _ _ _ _ wr K1.out K2.out (by rw [shortL_length]; omega) (by rw [shortL_length]; omega) (by rw [shortL_length]; omega) (by rw [shortL_top]; exact H1.out)).mono ?_; rintro e w3 ⟨v3, rfl, e1, e2⟩; have E1 := hide e1; obtain ⟨o3, c3, e3, _⟩ := e1.open; rw [shortL_length, HR1.out] at e3; subst e3; have E2 := hide e2; clear e1 e2)
      go_roundw
      case rel =>
        have := E1.out
        rw [shortL_length, HR1.out] at this
        exact ⟨gr_none G1.out E2.out, .inr (.inl ⟨K2.out.keep0 E2.out, this⟩)⟩
      case measure => simp [lenOf]; omega
    · have K1 := hide k1
      have K2 := hide k2
      obtain ⟨o1, c1, rfl, _, _, _⟩ := k1.open
      obtain ⟨o2, c2, rfl, d1, d2, _⟩ := k2.open
      unfold maxLen at d2
      clear k1 k2
      rw [shortL_length]
      rw [shortL_length] at K1
      go_wp2_with (go_at_call 293; refine (rest_one _ _ _ _ wr K1.out K2.out (by decide) (by rw [shortL_length]; omega) (by decide) (by decide)).mono ?_; rintro e w3 ⟨v3, rfl, e1, e2⟩; have E1 := hide e1; obtain ⟨o3, c3, e3, _⟩ := e1.open; rw [shortL_length, HR2.out] at e3; subst e3; have E2 := hide e2; clear e1 e2)
      go_roundw
      case rel =>
        have := E1.out
        rw [shortL_length, HR2.out] at this
        exact ⟨gr_none G1.out E2.out, .inr (.inr ⟨K2.out.keep0 E2.out, this⟩)⟩
      case measure => simp [lenOf]
    · obtain ⟨o1, c1, rfl, _, _, _⟩ := k1.open
      obtain ⟨o2, c2, rfl, d1, d2, _⟩ := k2.open
      clear k1 k2
      go_wp2
      go_ret
      exact ⟨rfl, G1.out⟩
end Go.Proofs.YtbihhkcgiepgaaeGreatDoor
