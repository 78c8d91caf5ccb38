/- frac: Compare. -/
import Derived.Test.YtnpfjnkmpbmgeaaGreatDoorXFe
import Derived.Deep.RegionHeld3
import Derived.Deep.DeepCutAuto
namespace Go.Proofs.YtnpfjnkmpbmgeaaGreatDoor
open Go.RowKit
set_option linter.unusedVariables false
set_option linter.unusedSimpArgs false
def cmpR (p q : Rat) : Int := if p < q then -1 else if q < p then 1 else 0
theorem cmp_diff (p q : Rat) (h : p.num.sign ≠ q.num.sign) : sgn (p.num.sign - q.num.sign) = cmpR p q := by
  have hp := p.den_pos
  have hq := q.den_pos
  unfold cmpR sgn
  simp only [Rat.lt_iff]
  rcases Int.lt_trichotomy p.num 0 with a | a | a <;> rcases Int.lt_trichotomy q.num 0 with b | b | b
  · rw [Int.sign_eq_neg_one_of_neg a, Int.sign_eq_neg_one_of_neg b] at h; exact absurd rfl h
  · rw [Int.sign_eq_neg_one_of_neg a, b]
    have : p.num * (q.den : Int) < 0 := Int.mul_neg_of_neg_of_pos a (by omega)
    simp [this]
  · rw [Int.sign_eq_neg_one_of_neg a, Int.sign_eq_one_of_pos b]
    have h1 : p.num * (q.den : Int) < 0 := Int.mul_neg_of_neg_of_pos a (by omega)
    have h2 : 0 < q.num * (p.den : Int) := Int.mul_pos b (by omega)
    rw [if_pos (by omega), if_pos (by omega)]
  · rw [Int.sign_eq_neg_one_of_neg b, a]
    have : q.num * (p.den : Int) < 0 := Int.mul_neg_of_neg_of_pos b (by omega)
    have h2 : ¬ (0 : Int) < q.num * (p.den : Int) := by omega
    simp [this, h2]
  · rw [a, b] at h; exact absurd rfl h
  · rw [a, Int.sign_eq_one_of_pos b]
    have h2 : 0 < q.num * (p.den : Int) := Int.mul_pos b (by omega)
    simp [h2]
  · rw [Int.sign_eq_one_of_pos a, Int.sign_eq_neg_one_of_neg b]
    have h1 : q.num * (p.den : Int) < 0 := Int.mul_neg_of_neg_of_pos b (by omega)
    have h2 : 0 < p.num * (q.den : Int) := Int.mul_pos a (by omega)
    rw [if_neg (by omega), if_pos (by omega), if_neg (by omega), if_pos (by omega)]
  · rw [Int.sign_eq_one_of_pos a, b]
    have h2 : 0 < p.num * (q.den : Int) := Int.mul_pos a (by omega)
    have h3 : ¬ p.num * (q.den : Int) < 0 := by omega
    simp [h2, h3]
  · rw [Int.sign_eq_one_of_pos a, Int.sign_eq_one_of_pos b] at h; exact absurd rfl h
theorem cmp_same (p q : Rat) (h : p.num.sign = q.num.sign) : p.num.sign * ord (rN p * q.den) (rN q * p.den) = cmpR p q := by
  have hp := p.den_pos
  have hq := q.den_pos
  unfold cmpR ord
  simp only [Rat.lt_iff]
  obtain ⟨X, hX⟩ : ∃ X : Nat, X = rN p * q.den := ⟨_, rfl⟩
  obtain ⟨Y, hY⟩ : ∃ Y : Nat, Y = rN q * p.den := ⟨_, rfl⟩
  rw [← hX, ← hY]
  rcases Int.lt_trichotomy p.num 0 with a | a | a
  · have b : q.num < 0 := by
      rw [Int.sign_eq_neg_one_of_neg a] at h
      exact Int.sign_eq_neg_one_iff_neg.1 h.symm
    have e1 : p.num * (q.den : Int) = -(X : Int) := by
      rw [hX, Int.natCast_mul, show p.num = -((rN p : Nat) : Int) from by unfold rN; omega, Int.neg_mul]
    have e2 : q.num * (p.den : Int) = -(Y : Int) := by
      rw [hY, Int.natCast_mul, show q.num = -((rN q : Nat) : Int) from by unfold rN; omega, Int.neg_mul]
    rw [e1, e2, Int.sign_eq_neg_one_of_neg a]
    split <;> split <;> (try split) <;> (try split) <;> omega
  · have b : q.num = 0 := by
      rw [a] at h
      exact Int.sign_eq_zero_iff_zero.1 h.symm
    rw [a, b]
    simp
  · have b : 0 < q.num := by
      rw [Int.sign_eq_one_of_pos a] at h
      exact Int.sign_eq_one_iff_pos.1 h.symm
    have e1 : p.num * (q.den : Int) = (X : Int) := by
      rw [hX, Int.natCast_mul, show p.num = ((rN p : Nat) : Int) from by unfold rN; omega]
    have e2 : q.num * (p.den : Int) = (Y : Int) := by
      rw [hY, Int.natCast_mul, show q.num = ((rN q : Nat) : Int) from by unfold rN; omega]
    rw [e1, e2, Int.sign_eq_one_of_pos a]
    split <;> split <;> (try split) <;> (try split) <;> omega
set_option maxHeartbeats 8000000 in
set_option maxRecDepth 10000 in
theorem fCompare_at (x y : Value) (p q : Rat) (L1 L2 : Nat) (w : World) (hx : FQ w x p L1) (hy : FQ w y q L2) (hl : L1 + L2 ≤ 7000000000000) :
    Calls Tryz.prog 81 #[x, y] w fun e w' => e = .returned (.int .i64 (cmpR p q)) ∧ w.grownBy w' none := by
  have HX := hide hx
  have HY := hide hy
  obtain ⟨uo, ul, uc, do_, dl, dc, rfl⟩ := hx.shape
  obtain ⟨vo, vl, vc, eo, el, ec, rfl⟩ := hy.shape
  have NX := hide hx.parts.1
  have NY := hide hy.parts.1
  clear hx hy
  obtain ⟨W, hW⟩ : ∃ W, W = (w.alloc (Obj.cells #[.bool (rB p), .slice uo ul uc, .slice do_ dl dc] 50)).alloc (Obj.cells #[.bool (rB q), .slice vo vl vc, .slice eo el ec] 50) := ⟨_, rfl⟩
  have GW : Hid (w.grownBy W none) := by rw [hW]; exact gr_alloc (gr_alloc (gr_refl _ _) _) _
  have CELLS : Hid (∀ wx, W.grownBy wx none → wx.cell? ⟨w.heap.size, 0, none⟩ = some (.bool (rB p)) ∧ wx.cell? ⟨w.heap.size, 1, none⟩ = some (.slice uo ul uc) ∧ wx.cell? ⟨w.heap.size, 2, none⟩ = some (.slice do_ dl dc) ∧ wx.cell? ⟨w.heap.size + 1, 0, none⟩ = some (.bool (rB q)) ∧ wx.cell? ⟨w.heap.size + 1, 1, none⟩ = some (.slice vo vl vc) ∧ wx.cell? ⟨w.heap.size + 1, 2, none⟩ = some (.slice eo el ec)) := by
    intro wx hg
    rw [hW] at hg
    have a1 := box_three (gr_none (gr_alloc (gr_refl _ none) _) hg)
    have a2 := box_three hg
    rw [show (w.alloc (Obj.cells #[.bool (rB p), .slice uo ul uc, .slice do_ dl dc] 50)).heap.size = w.heap.size + 1 from by simp] at a2
    exact ⟨a1.1, a1.2.1, a1.2.2, a2⟩
  have GC : W.grownBy W none := gr_refl _ _
  obtain ⟨s0, s1, s2, s3, s4, s5⟩ := CELLS.out W GC
  have hsp : -1 ≤ p.num.sign ∧ p.num.sign ≤ 1 := by
    rcases Int.sign_trichotomy p.num with h | h | h <;> omega
  have hsq : -1 ≤ q.num.sign ∧ q.num.sign ≤ 1 := by
    rcases Int.sign_trichotomy q.num with h | h | h <;> omega
  obtain ⟨hsp1, hsp2⟩ := hsp
  obtain ⟨hsq1, hsq2⟩ := hsq
  obtain ⟨sp, esp⟩ : ∃ s, s = p.num.sign := ⟨_, rfl⟩
  obtain ⟨sq, esq⟩ : ∃ s, s = q.num.sign := ⟨_, rfl⟩
  have ESP := hide esp
  have ESQ := hide esq
  rw [← esp] at hsp1 hsp2
  rw [← esq] at hsq1 hsq2
  clear esp esq
  go_enter Tryz.func81, Tryz.ntmps81
  go_wp2
  rw [← hW]
  clear hW
  go_cut [9] (fun s9 wx => Hid (W.grownBy wx none ∧ s9 = .bool (sp != sq)))
  case first =>
    go_region_held3 (fun w' => w'.cell? ⟨w.heap.size, 0, none⟩ = some (.bool (rB p)) ∧ w'.cell? ⟨w.heap.size, 1, none⟩ = some (.slice uo ul uc) ∧ w'.cell? ⟨w.heap.size, 2, none⟩ = some (.slice do_ dl dc) ∧ w'.cell? ⟨w.heap.size + 1, 0, none⟩ = some (.bool (rB q)) ∧ w'.cell? ⟨w.heap.size + 1, 1, none⟩ = some (.slice vo vl vc) ∧ w'.cell? ⟨w.heap.size + 1, 2, none⟩ = some (.slice eo el ec)) (go_keep)
      (first | (go_at_call_of 45 (Value.agg #[.bool (rB p), .slice uo ul uc, .slice do_ dl dc]); refine (fSign_at _ p L1 _ (HX.out.keep0 (gr_none GW.out (by first | exact GC | exact gr_none GC (gr_d _) | exact gr_none GC gr_d1 | exact gr_none GC (gr_drewN (gr_refl _ _) 1))))).mono ?_; rintro e wsx ⟨rfl, gs⟩; (try have b1 := b1.keep0 (gr_none (by first | exact gr_refl _ _ | exact gr_d _ | exact gr_d1) gs)); (try have t1 := t1.keep0 (gr_none (by first | exact gr_refl _ _ | exact gr_d _ | exact gr_d1) gs)); (try have b2 := b2.keep0 (gr_none (by first | exact gr_refl _ _ | exact gr_d _ | exact gr_d1) gs)); (try have t2 := t2.keep0 (gr_none (by first | exact gr_refl _ _ | exact gr_d _ | exact gr_d1) gs)); have GC : W.grownBy wsx none := gr_none (by first | exact GC | exact gr_none GC (gr_d _) | exact gr_none GC gr_d1 | exact gr_none GC (gr_drewN (gr_refl _ _) 1)) gs; obtain ⟨a0, a1, a2, a3, a4, a5⟩ := CELLS.out wsx GC) | (go_at_call_of 45 (Value.agg #[.bool (rB q), .slice vo vl vc, .slice eo el ec]); refine (fSign_at _ q L2 _ (HY.out.keep0 (gr_none GW.out (by first | exact GC | exact gr_none GC (gr_d _) | exact gr_none GC gr_d1 | exact gr_none GC (gr_drewN (gr_refl _ _) 1))))).mono ?_; rintro e wsy ⟨rfl, gs⟩; (try have b1 := b1.keep0 (gr_none (by first | exact gr_refl _ _ | exact gr_d _ | exact gr_d1) gs)); (try have t1 := t1.keep0 (gr_none (by first | exact gr_refl _ _ | exact gr_d _ | exact gr_d1) gs)); (try have b2 := b2.keep0 (gr_none (by first | exact gr_refl _ _ | exact gr_d _ | exact gr_d1) gs)); (try have t2 := t2.keep0 (gr_none (by first | exact gr_refl _ _ | exact gr_d _ | exact gr_d1) gs)); have GC : W.grownBy wsy none := gr_none (by first | exact GC | exact gr_none GC (gr_d _) | exact gr_none GC gr_d1 | exact gr_none GC (gr_drewN (gr_refl _ _) 1)) gs; obtain ⟨a0, a1, a2, a3, a4, a5⟩ := CELLS.out wsy GC))
    all_goals
      rw [← ESP.out, ← ESQ.out]
      go_wp2_with fail
      go_meet
      exact ⟨(by first | exact GC | exact gr_none GC (gr_d _) | exact gr_none GC gr_d1 | exact gr_none GC (gr_drewN (gr_refl _ _) 1)), by first | rfl | simp⟩
  case rest =>
    obtain ⟨hG, rfl⟩ := hcut.out
    clear GC
    have GC := hG
    clear hG hcut s0 s1 s2 s3 s4 s5
    obtain ⟨s0, s1, s2, s3, s4, s5⟩ := CELLS.out wc GC
    by_cases hs : sp = sq
    · have hss : (sp != sq) = false := by simp [hs]
      rw [hss]
      have HC : Hid (p.num.sign * ord (rN p * q.den) (rN q * p.den) = cmpR p q) := cmp_same p q (by rw [← ESP.out, ← ESQ.out]; exact hs)
      have ho1 : -1 ≤ ord (rN p * q.den) (rN q * p.den) := by unfold ord; split <;> (try split) <;> omega
      have ho2 : ord (rN p * q.den) (rN q * p.den) ≤ 1 := by unfold ord; split <;> (try split) <;> omega
      obtain ⟨oo, hoo⟩ : ∃ o, o = ord (rN p * q.den) (rN q * p.den) := ⟨_, rfl⟩
      rw [← hoo] at HC ho1 ho2
      have HOO := hide hoo
      have hm1 : -1 ≤ sp * oo := by
        have h1 : oo = -1 ∨ oo = 0 ∨ oo = 1 := by omega
        have h2 : sp = -1 ∨ sp = 0 ∨ sp = 1 := by omega
        rcases h1 with h1 | h1 | h1 <;> rcases h2 with h2 | h2 | h2 <;> rw [h1, h2] <;> decide
      have hm2 : sp * oo ≤ 1 := by
        have h1 : oo = -1 ∨ oo = 0 ∨ oo = 1 := by omega
        have h2 : sp = -1 ∨ sp = 0 ∨ sp = 1 := by omega
        rcases h1 with h1 | h1 | h1 <;> rcases h2 with h2 | h2 | h2 <;> rw [h1, h2] <;> decide
      clear hoo hs
      go_wp2
      go_region_held3 (fun w' => w'.cell? ⟨w.heap.size, 0, none⟩ = some (.bool (rB p)) ∧ w'.cell? ⟨w.heap.size, 1, none⟩ = some (.slice uo ul uc) ∧ w'.cell? ⟨w.heap.size, 2, none⟩ = some (.slice do_ dl dc) ∧ w'.cell? ⟨w.heap.size + 1, 0, none⟩ = some (.bool (rB q)) ∧ w'.cell? ⟨w.heap.size + 1, 1, none⟩ = some (.slice vo vl vc) ∧ w'.cell? ⟨w.heap.size + 1, 2, none⟩ = some (.slice eo el ec)) (go_keep)
        (first | (go_at_call_of 45 (Value.agg #[.bool (rB p), .slice uo ul uc, .slice do_ dl dc]); refine (fSign_at _ p L1 _ (HX.out.keep0 (gr_none GW.out (by first | exact GC | exact gr_none GC (gr_d _) | exact gr_none GC gr_d1 | exact gr_none GC (gr_drewN (gr_refl _ _) 1))))).mono ?_; rintro e wsx ⟨rfl, gs⟩; (try have b1 := b1.keep0 (gr_none (by first | exact gr_refl _ _ | exact gr_d _ | exact gr_d1) gs)); (try have t1 := t1.keep0 (gr_none (by first | exact gr_refl _ _ | exact gr_d _ | exact gr_d1) gs)); (try have b2 := b2.keep0 (gr_none (by first | exact gr_refl _ _ | exact gr_d _ | exact gr_d1) gs)); (try have t2 := t2.keep0 (gr_none (by first | exact gr_refl _ _ | exact gr_d _ | exact gr_d1) gs)); have GC : W.grownBy wsx none := gr_none (by first | exact GC | exact gr_none GC (gr_d _) | exact gr_none GC gr_d1 | exact gr_none GC (gr_drewN (gr_refl _ _) 1)) gs; obtain ⟨a0, a1, a2, a3, a4, a5⟩ := CELLS.out wsx GC; rw [← ESP.out]) | (go_at_call_of 94 (Value.agg #[.bool (rB q), .slice vo vl vc, .slice eo el ec]); refine (bar_at _ _ _ _ L2 _ (HY.out.keep0 (gr_none GW.out (by first | exact GC | exact gr_none GC (gr_d _) | exact gr_none GC gr_d1 | exact gr_none GC (gr_drewN (gr_refl _ _) 1))))).mono ?_; rintro e wb1 ⟨vb1, rfl, b1, gb⟩; obtain ⟨bo1, bl1, bc1, rfl, _, _, _⟩ := b1.shape; (try have t1 := t1.keep0 (gr_none (by first | exact gr_refl _ _ | exact gr_d _ | exact gr_d1) gb)); (try have b2 := b2.keep0 (gr_none (by first | exact gr_refl _ _ | exact gr_d _ | exact gr_d1) gb)); (try have t2 := t2.keep0 (gr_none (by first | exact gr_refl _ _ | exact gr_d _ | exact gr_d1) gb)); have GC : W.grownBy wb1 none := gr_none (by first | exact GC | exact gr_none GC (gr_d _) | exact gr_none GC gr_d1 | exact gr_none GC (gr_drewN (gr_refl _ _) 1)) gb; obtain ⟨a0, a1, a2, a3, a4, a5⟩ := CELLS.out wb1 GC) | (go_at_call_of 94 (Value.agg #[.bool (rB p), .slice uo ul uc, .slice do_ dl dc]); refine (bar_at _ _ _ _ L1 _ (HX.out.keep0 (gr_none GW.out (by first | exact GC | exact gr_none GC (gr_d _) | exact gr_none GC gr_d1 | exact gr_none GC (gr_drewN (gr_refl _ _) 1))))).mono ?_; rintro e wb2 ⟨vb2, rfl, b2, gb⟩; obtain ⟨bo2, bl2, bc2, rfl, _, _, _⟩ := b2.shape; (try have t1 := t1.keep0 (gr_none (by first | exact gr_refl _ _ | exact gr_d _ | exact gr_d1) gb)); (try have b1 := b1.keep0 (gr_none (by first | exact gr_refl _ _ | exact gr_d _ | exact gr_d1) gb)); (try have t2 := t2.keep0 (gr_none (by first | exact gr_refl _ _ | exact gr_d _ | exact gr_d1) gb)); have GC : W.grownBy wb2 none := gr_none (by first | exact GC | exact gr_none GC (gr_d _) | exact gr_none GC gr_d1 | exact gr_none GC (gr_drewN (gr_refl _ _) 1)) gb; obtain ⟨a0, a1, a2, a3, a4, a5⟩ := CELLS.out wb2 GC) | (go_at_call_of 92 (Value.slice uo ul uc); refine (times_num _ _ (rN p) q.den L1 (L2 + 1) _ (NX.out.keep0 (gr_none GW.out (by first | exact GC | exact gr_none GC (gr_d _) | exact gr_none GC gr_d1 | exact gr_none GC (gr_drewN (gr_refl _ _) 1)))) (b1.keep0 (by first | exact gr_refl _ _ | exact gr_d _ | exact gr_d1)) (by omega)).mono ?_; rintro e wt1 ⟨vt1, rfl, t1, gt, _⟩; obtain ⟨to1, tl1, tc1, rfl, _, _, _⟩ := t1.shape; (try have b1 := b1.keep0 (gr_none (by first | exact gr_refl _ _ | exact gr_d _ | exact gr_d1) gt)); (try have b2 := b2.keep0 (gr_none (by first | exact gr_refl _ _ | exact gr_d _ | exact gr_d1) gt)); (try have t2 := t2.keep0 (gr_none (by first | exact gr_refl _ _ | exact gr_d _ | exact gr_d1) gt)); have GC : W.grownBy wt1 none := gr_none (by first | exact GC | exact gr_none GC (gr_d _) | exact gr_none GC gr_d1 | exact gr_none GC (gr_drewN (gr_refl _ _) 1)) gt; obtain ⟨a0, a1, a2, a3, a4, a5⟩ := CELLS.out wt1 GC) | (go_at_call_of 92 (Value.slice vo vl vc); refine (times_num _ _ (rN q) p.den L2 (L1 + 1) _ (NY.out.keep0 (gr_none GW.out (by first | exact GC | exact gr_none GC (gr_d _) | exact gr_none GC gr_d1 | exact gr_none GC (gr_drewN (gr_refl _ _) 1)))) (b2.keep0 (by first | exact gr_refl _ _ | exact gr_d _ | exact gr_d1)) (by omega)).mono ?_; rintro e wt2 ⟨vt2, rfl, t2, gt, _⟩; obtain ⟨to2, tl2, tc2, rfl, _, _, _⟩ := t2.shape; (try have b1 := b1.keep0 (gr_none (by first | exact gr_refl _ _ | exact gr_d _ | exact gr_d1) gt)); (try have b2 := b2.keep0 (gr_none (by first | exact gr_refl _ _ | exact gr_d _ | exact gr_d1) gt)); (try have t1 := t1.keep0 (gr_none (by first | exact gr_refl _ _ | exact gr_d _ | exact gr_d1) gt)); have GC : W.grownBy wt2 none := gr_none (by first | exact GC | exact gr_none GC (gr_d _) | exact gr_none GC gr_d1 | exact gr_none GC (gr_drewN (gr_refl _ _) 1)) gt; obtain ⟨a0, a1, a2, a3, a4, a5⟩ := CELLS.out wt2 GC) | (go_at_call 122; refine (fcompare_num _ _ (rN p * q.den) (rN q * p.den) _ _ _ (t1.keep0 (by first | exact gr_refl _ _ | exact gr_d _ | exact gr_d1)) (t2.keep0 (by first | exact gr_refl _ _ | exact gr_d _ | exact gr_d1))).mono ?_; rintro e wcm ⟨rfl, qc, rfl⟩; rw [← HOO.out]))
      all_goals
        go_wp2
        go_ret
        refine ⟨?_, gr_none GW.out (by first | exact GC | exact gr_none GC (gr_d _) | exact gr_none GC gr_d1 | exact gr_none GC (gr_drewN (gr_refl _ _) 1))⟩
        have hc := HC.out
        rw [← ESP.out] at hc
        rw [← hc]
        first | rfl | (show Ending.returned (Value.int .i64 (IntKind.i64.wrap (sp * oo))) = _; rw [IntWalk.i64_in _ ⟨by omega, by omega⟩])
    · have hss : (sp != sq) = true := by simp [hs]
      rw [hss]
      have HC : Hid (sgn (sp - sq) = cmpR p q) := by
        show _ = _
        rw [ESP.out, ESQ.out]
        exact cmp_diff p q (by rw [← ESP.out, ← ESQ.out]; exact hs)
      clear hs
      go_wp2
      go_region_held3 (fun w' => w'.cell? ⟨w.heap.size, 0, none⟩ = some (.bool (rB p)) ∧ w'.cell? ⟨w.heap.size, 1, none⟩ = some (.slice uo ul uc) ∧ w'.cell? ⟨w.heap.size, 2, none⟩ = some (.slice do_ dl dc) ∧ w'.cell? ⟨w.heap.size + 1, 0, none⟩ = some (.bool (rB q)) ∧ w'.cell? ⟨w.heap.size + 1, 1, none⟩ = some (.slice vo vl vc) ∧ w'.cell? ⟨w.heap.size + 1, 2, none⟩ = some (.slice eo el ec)) (go_keep)
        (first | (go_at_call_of 45 (Value.agg #[.bool (rB p), .slice uo ul uc, .slice do_ dl dc]); refine (fSign_at _ p L1 _ (HX.out.keep0 (gr_none GW.out (by first | exact GC | exact gr_none GC (gr_d _) | exact gr_none GC gr_d1 | exact gr_none GC (gr_drewN (gr_refl _ _) 1))))).mono ?_; rintro e wsx ⟨rfl, gs⟩; (try have b1 := b1.keep0 (gr_none (by first | exact gr_refl _ _ | exact gr_d _ | exact gr_d1) gs)); (try have t1 := t1.keep0 (gr_none (by first | exact gr_refl _ _ | exact gr_d _ | exact gr_d1) gs)); (try have b2 := b2.keep0 (gr_none (by first | exact gr_refl _ _ | exact gr_d _ | exact gr_d1) gs)); (try have t2 := t2.keep0 (gr_none (by first | exact gr_refl _ _ | exact gr_d _ | exact gr_d1) gs)); have GC : W.grownBy wsx none := gr_none (by first | exact GC | exact gr_none GC (gr_d _) | exact gr_none GC gr_d1 | exact gr_none GC (gr_drewN (gr_refl _ _) 1)) gs; obtain ⟨a0, a1, a2, a3, a4, a5⟩ := CELLS.out wsx GC; rw [← ESP.out]) | (go_at_call_of 45 (Value.agg #[.bool (rB q), .slice vo vl vc, .slice eo el ec]); refine (fSign_at _ q L2 _ (HY.out.keep0 (gr_none GW.out (by first | exact GC | exact gr_none GC (gr_d _) | exact gr_none GC gr_d1 | exact gr_none GC (gr_drewN (gr_refl _ _) 1))))).mono ?_; rintro e wsy ⟨rfl, gs⟩; (try have b1 := b1.keep0 (gr_none (by first | exact gr_refl _ _ | exact gr_d _ | exact gr_d1) gs)); (try have t1 := t1.keep0 (gr_none (by first | exact gr_refl _ _ | exact gr_d _ | exact gr_d1) gs)); (try have b2 := b2.keep0 (gr_none (by first | exact gr_refl _ _ | exact gr_d _ | exact gr_d1) gs)); (try have t2 := t2.keep0 (gr_none (by first | exact gr_refl _ _ | exact gr_d _ | exact gr_d1) gs)); have GC : W.grownBy wsy none := gr_none (by first | exact GC | exact gr_none GC (gr_d _) | exact gr_none GC gr_d1 | exact gr_none GC (gr_drewN (gr_refl _ _) 1)) gs; obtain ⟨a0, a1, a2, a3, a4, a5⟩ := CELLS.out wsy GC; rw [← ESQ.out]) | (go_at_call 89; refine (fsign_at _ _).mono ?_; rintro e wsg ⟨rfl, rfl⟩))
      all_goals
        go_wp2
        go_ret
        refine ⟨?_, gr_none GW.out (by first | exact GC | exact gr_none GC (gr_d _) | exact gr_none GC gr_d1 | exact gr_none GC (gr_drewN (gr_refl _ _) 1))⟩
        rw [← HC.out]
        first | rfl | (show Ending.returned (Value.int .i64 (sgn (IntKind.i64.wrap (sp - sq)))) = _; rw [IntWalk.i64_in _ ⟨by omega, by omega⟩])
end Go.Proofs.YtnpfjnkmpbmgeaaGreatDoor
