/- frac: isOne, lowest. -/
import Derived.Test.YtfhamfgcjdhmdaaDoorFGcd
namespace Go.Proofs.YtfhamfgcjdhmdaaDoor
open Go.RowKit
set_option linter.unusedVariables false

theorem one_iff {xs : List Nat} (hs : Sm xs) (ht : Tr xs) : (xs == [1]) = decide (val xs = 1) := by
  rw [Bool.eq_iff_iff]
  simp only [beq_iff_eq, decide_eq_true_eq]
  constructor
  · intro e; rw [e]; simp [val]
  · intro e
    refine val_inj hs (Sm.cons (by decide) Sm.nil) ht (by simp [Tr, trimL]) ?_
    rw [e]; simp [val]

theorem isOne_yes (v : Value) (L : Nat) (w : World) (h : Num w v 1 L) : Calls Tryd.prog 58 #[v] w fun e w' => e = .returned (.bool true) ∧ w' = w := by
  obtain ⟨xs, h1, h2, h3, h4⟩ := h
  refine (fisOne_ws v xs w h1).mono ?_
  rintro e w' ⟨rfl, rfl⟩
  rw [one_iff h1.sm h2, h3]
  exact ⟨rfl, rfl⟩

theorem isOne_no (v : Value) (n L : Nat) (w : World) (h : Num w v n L) (hn : n ≠ 1) : Calls Tryd.prog 58 #[v] w fun e w' => e = .returned (.bool false) ∧ w' = w := by
  obtain ⟨xs, h1, h2, h3, h4⟩ := h
  refine (fisOne_ws v xs w h1).mono ?_
  rintro e w' ⟨rfl, rfl⟩
  rw [one_iff h1.sm h2, h3]
  exact ⟨by simp [hn], rfl⟩

/-- v is the fraction n over d in lowest terms, below 0 or not. -/
def FV (w : World) (v : Value) (neg : Bool) (n d L : Nat) : Prop :=
  ∃ up down, v = .agg #[.bool neg, up, down] ∧ Num w up n L ∧ ((down = .slice none 0 0 ∧ d = 1) ∨ (Num w down d L ∧ 1 < d)) ∧ Nat.gcd n d = 1 ∧ (neg = true → 0 < n)

theorem FV.keep0 {w w' : World} {v : Value} {neg : Bool} {n d L : Nat} (h : FV w v neg n d L) (hg : w.grownBy w' none) : FV w' v neg n d L := by
  obtain ⟨up, down, e, h1, h2, h3, h4⟩ := h
  refine ⟨up, down, e, h1.keep0 hg, ?_, h3, h4⟩
  rcases h2 with h2 | ⟨h2, h5⟩
  · exact .inl h2
  · exact .inr ⟨h2.keep0 hg, h5⟩

/-- What lowest answers. -/
def LowE (w : World) (neg : Bool) (n d L : Nat) (e : Ending) (w' : World) : Prop := ∃ v, e = .returned v ∧ FV w' v neg n d L ∧ w.grownBy w' none

set_option maxHeartbeats 1000000 in
set_option maxRecDepth 10000 in
theorem lowest_zero (below : Bool) (u d : Value) (n m L : Nat) (w : World) (hu : Num w u n L) (hd : Num w d m L) (h0 : n = 0 ∨ m = 0) :
    Calls Tryd.prog 31 #[.bool below, u, d] w fun e w' => LowE w false 0 1 L e w' := by
  obtain ⟨uo, ul, uc, rfl, u1, u2, u3⟩ := hu.shape
  obtain ⟨do_, dl, dc, rfl, d1, d2, d3⟩ := hd.shape
  unfold maxLen at u3 d3
  have hz : ul = 0 ∨ dl = 0 := by
    rcases h0 with h | h
    · exact .inl (u1.2 h)
    · exact .inr (d1.2 h)
  clear u1 d1 h0 hu hd
  have hend : LowE w false 0 1 L (.returned (.agg #[.bool false, .slice none 0 0, .slice none 0 0])) (w.alloc (Obj.cells #[Value.bool false, Value.slice none 0 0, Value.slice none 0 0] 64)) :=
    ⟨_, rfl, ⟨_, _, rfl, ⟨[], Ws.nil _, rfl, rfl, by simp⟩, .inl ⟨rfl, rfl⟩, rfl, by simp⟩, gr_alloc (gr_refl _ _) _⟩
  have HEND := hide hend
  clear hend
  by_cases hz1 : ul = 0
  · subst hz1
    clear hz
    go_enter Tryd.func31, Tryd.ntmps31
    go_wp2
    exact bodyPost_ret (v := .agg #[.bool false, .slice none 0 0, .slice none 0 0]) (by simp [results, Tryd.results31, go_sem]) rfl HEND.out
  · obtain rfl : dl = 0 := by omega
    have hb : (((ul : Nat) : Int) == 0) = false := beq_eq_false_iff_ne.2 (by omega)
    clear hz hz1
    go_enter Tryd.func31, Tryd.ntmps31
    go_wp2
    exact bodyPost_ret (v := .agg #[.bool false, .slice none 0 0, .slice none 0 0]) (by simp [results, Tryd.results31, go_sem]) rfl HEND.out

/-- The block of what is answered holds no words. -/
def NoWords (w : World) (g : Nat) : Prop := ∀ i (x : Nat), w.cell? ⟨g, i, none⟩ ≠ some (.int .u32 (x : Nat))

theorem noWords_res {w W : World} {b : Bool} (h : (w.alloc (Obj.cells #[.bool b, .slice none 0 0, .slice none 0 0] 64)).grownBy W none) : NoWords W w.heap.size := by
  have e : W.heap[w.heap.size]? = some (Obj.cells #[.bool b, .slice none 0 0, .slice none 0 0] 64 (0, 0)) := by
    rw [h.block w.heap.size (by simp) (by simp)]
    exact heap_alloc_new w _
  intro i x
  match i with
  | 0 => simp [World.cell?, e]
  | 1 => simp [World.cell?, e]
  | 2 => simp [World.cell?, e]
  | i + 3 => simp [World.cell?, e]

theorem Num.other {w w' : World} {v : Value} {n L g : Nat} (h : Num w v n L) (hg : NoWords w g) (hgr : w.grownBy w' (some g)) : Num w' v n L := by
  obtain ⟨xs, h1, h2, h3, h4⟩ := h
  refine ⟨xs, ?_, h2, h3, h4⟩
  by_cases h0 : xs.length = 0
  · refine ⟨h1.sm, ?_⟩
    rcases h1.sh with h | ⟨b, off, cap, rfl, hb, hl, hm, hc⟩
    · exact .inl h
    · exact .inr ⟨b, off, cap, rfl, Nat.lt_of_lt_of_le hb hgr.size, hl, hm, fun i hi => by omega⟩
  · refine h1.keep hgr ?_
    intro k e hk
    cases e
    obtain ⟨ao, cap, rfl, _, _, hc⟩ := h1.open
    obtain ⟨b, off, rfl, _, hcell⟩ := hc 0 (by omega)
    simp [blockOf] at hk
    subst hk
    exact hg _ _ hcell

/-- v lies in another block than g. -/
def Off (g : Nat) (v : Value) : Prop := ∀ k, blockOf v = some k → k ≠ g

theorem Num.off {w : World} {v : Value} {n L : Nat} (h : Num w v n L) : Off w.heap.size v := by
  obtain ⟨xs, h1, _⟩ := h
  intro k hk
  have := h1.blk k hk
  omega

theorem Fresh.off {w : World} {v : Value} {g : Nat} (h : Fresh w v) (hg : g < w.heap.size) : Off g v := fun k hk => by
  have := h k hk
  omega

theorem Num.set {w : World} {v : Value} {n L g i : Nat} {x : Value} (h : Num w v n L) (ho : Off g v) : Num (w.setCell ⟨g, i, none⟩ x) v n L :=
  h.keep (row := some g) ⟨rfl, rfl, rfl, by simp, fun k _ hr => heap_setCell_other _ _ _ _ (fun e => hr (by rw [e]))⟩ (fun k e hk => by cases e; exact ho g hk rfl)

/-- The cells of what is answered, in a world that has grown since. -/
theorem res_cells {w W : World} {b : Value} {u v : Value} (h : (w.alloc (Obj.cells #[b, u, v] 64)).grownBy W none) :
    W.cell? ⟨w.heap.size, 0, none⟩ = some b ∧ W.cell? ⟨w.heap.size, 1, none⟩ = some u ∧ W.cell? ⟨w.heap.size, 2, none⟩ = some v ∧ (∀ i, W.frozen? ⟨w.heap.size, i, none⟩ = false) := by
  have e : W.heap[w.heap.size]? = some (Obj.cells #[b, u, v] 64 (0, 0)) := by
    rw [h.block w.heap.size (by simp) (by simp)]
    exact heap_alloc_new w _
  refine ⟨?_, ?_, ?_, fun i => ?_⟩ <;> simp [World.cell?, World.frozen?, e]

/-- The end where the fraction is whole, or its words stand as they are. -/
theorem low_one (n : Nat) : n / Nat.gcd n 1 = n ∧ 1 / Nat.gcd n 1 = 1 := by rw [Nat.gcd_one_right]; simp

theorem low_whole {n m : Nat} (h : n % m = 0) (hm : 0 < m) : n / Nat.gcd n m = n / m ∧ m / Nat.gcd n m = 1 := by
  rw [Nat.gcd_eq_right (Nat.dvd_of_mod_eq_zero h)]
  exact ⟨rfl, Nat.div_self hm⟩

theorem low_rest {n m : Nat} (h : n % m ≠ 0) (hm : 0 < m) : 1 < m / Nat.gcd n m := by
  have hd : Nat.gcd n m ∣ m := Nat.gcd_dvd_right n m
  have hG : 0 < Nat.gcd n m := Nat.gcd_pos_of_pos_right _ hm
  have h1 : 0 < m / Nat.gcd n m := Nat.div_pos (Nat.gcd_le_right _ hm) hG
  rcases Nat.lt_or_ge 1 (m / Nat.gcd n m) with h2 | h2
  · exact h2
  · exfalso
    have e : m / Nat.gcd n m = 1 := by omega
    have e2 : m = Nat.gcd n m := by
      have := Nat.div_mul_cancel hd
      rw [e, Nat.one_mul] at this
      exact this.symm
    have hdn : m ∣ n := by rw [e2]; exact Nat.gcd_dvd_left n m
    exact h (Nat.mod_eq_zero_of_dvd hdn)

/-- What over answers: x divided by a divisor of it. -/
def OverE (w : World) (n L : Nat) (e : Ending) (w' : World) : Prop := ∃ v, e = .returned v ∧ Num w' v n L ∧ w.grownBy w' none

set_option maxHeartbeats 1000000 in
theorem over_at (x y : Value) (n G L : Nat) (w : World) (hx : Num w x n L) (hy : Num w y G L) (h0 : 0 < G) (hl : L ≤ 800000000) :
    Calls Tryd.prog 39 #[x, y] w fun e w' => OverE w (n / G) L e w' := by
  obtain ⟨uo, ul, uc, rfl, u1, u2, u3⟩ := hx.shape
  obtain ⟨do_, dl, dc, rfl, d1, d2, d3⟩ := hy.shape
  have HX := hide hx
  have HY := hide hy
  clear hx hy u1 d1
  by_cases h1 : G = 1
  · have HH1 := hide h1
    clear h1
    go_enter Tryd.func39, Tryd.ntmps39
    go_wp2_with fail
    refine (isOne_yes _ L _ (by have := HY.out; rw [HH1.out] at this; exact this)).mono ?_
    rintro e w2 ⟨rfl, rfl⟩
    go_wp2
    go_ret
    exact ⟨_, rfl, by rw [HH1.out, Nat.div_one]; exact HX.out, gr_refl _ _⟩
  · have HH1 := hide h1
    clear h1
    go_enter Tryd.func39, Tryd.ntmps39
    go_wp2_with fail
    refine (isOne_no _ G L _ HY.out HH1.out).mono ?_
    rintro e w2 ⟨rfl, rfl⟩
    go_wp2_with fail
    refine (divide_num _ _ n G L L _ HX.out HY.out h0 (by omega)).mono ?_
    intro e w6 hD
    obtain ⟨q, r, rfl, k1, k2, k3, k4, k5⟩ := hD
    obtain ⟨qo, ql, qc, rfl, _, _, _⟩ := k1.shape
    obtain ⟨ro, rl, rc, rfl, _, _, _⟩ := k2.shape
    have M1 := hide k1
    have M3 := hide k3
    clear k1 k2 k3 k4 k5
    go_wp2
    go_ret
    exact ⟨_, rfl, M1.out, M3.out⟩

theorem gr_three {w : World} {g : Nat} {a b c : Value} : w.grownBy (((w.setCell ⟨g, 0, none⟩ a).setCell ⟨g, 1, none⟩ b).setCell ⟨g, 2, none⟩ c) (some g) :=
  gr_row (gr_row (gr_row (gr_refl _ _) g 0 _ rfl) g 1 _ rfl) g 2 _ rfl

/-- The end of lowest: what is stored. -/
theorem lowest_end {w W : World} {g n d L : Nat} {below : Bool} {u v : Value} (hg : g = w.heap.size) (hw : w.grownBy W none) (hu : Num W u n L) (hv : (v = .slice none 0 0 ∧ d = 1) ∨ (Num W v d L ∧ 1 < d)) (nw : NoWords W g) (hc : Nat.gcd n d = 1) (hn : 0 < n) :
    LowE w below n d L (.returned (.agg #[.bool below, u, v])) (((W.setCell ⟨g, 0, none⟩ (.bool below)).setCell ⟨g, 1, none⟩ u).setCell ⟨g, 2, none⟩ v) := by
  refine ⟨_, rfl, ⟨u, v, rfl, hu.other nw gr_three, ?_, hc, fun _ => hn⟩, ?_⟩
  · rcases hv with h | ⟨h, h1⟩
    · exact .inl h
    · exact .inr ⟨h.other nw gr_three, h1⟩
  · subst hg
    exact gr_set (gr_set (gr_set hw _ _ (Nat.le_refl _)) _ _ (Nat.le_refl _)) _ _ (Nat.le_refl _)

set_option maxHeartbeats 2000000 in
set_option maxRecDepth 10000 in
theorem lowest_pos (below : Bool) (u d : Value) (n m L : Nat) (w : World) (hu : Num w u n L) (hd : Num w d m L) (hn : 0 < n) (hm : 0 < m) (hl : L ≤ 800000000) :
    Calls Tryd.prog 31 #[.bool below, u, d] w fun e w' => LowE w below (n / Nat.gcd n m) (m / Nat.gcd n m) L e w' := by
  obtain ⟨uo, ul, uc, rfl, u1, u2, u3⟩ := hu.shape
  obtain ⟨do_, dl, dc, rfl, d1, d2, d3⟩ := hd.shape
  unfold maxLen at u3 d3
  have hul : 0 < ul := by
    rcases Nat.eq_zero_or_pos ul with h | h
    · have := u1.1 h; omega
    · exact h
  have hdl : 0 < dl := by
    rcases Nat.eq_zero_or_pos dl with h | h
    · have := d1.1 h; omega
    · exact h
  have hb1 : (((ul : Nat) : Int) == 0) = false := beq_eq_false_iff_ne.2 (by omega)
  have hb2 : (((dl : Nat) : Int) == 0) = false := beq_eq_false_iff_ne.2 (by omega)
  have HU := hide hu
  have HD := hide hd
  have hnG : Hid (0 < n / Nat.gcd n m) := Nat.div_pos (Nat.gcd_le_left _ hn) (Nat.gcd_pos_of_pos_left _ hn)
  have hcop : Hid (Nat.gcd (n / Nat.gcd n m) (m / Nat.gcd n m) = 1) := by
    show _ = _
    rw [Nat.gcd_div (Nat.gcd_dvd_left n m) (Nat.gcd_dvd_right n m), Nat.div_self (Nat.gcd_pos_of_pos_left _ hn)]
  obtain ⟨A, hA⟩ : ∃ A, A = n / Nat.gcd n m := ⟨_, rfl⟩
  obtain ⟨B, hB⟩ : ∃ B, B = m / Nat.gcd n m := ⟨_, rfl⟩
  rw [← hA] at hnG hcop ⊢
  rw [← hB] at hcop ⊢
  have EA := hide hA
  have EB := hide hB
  clear hu hd u1 d1 hA hB
  go_enter Tryd.func31, Tryd.ntmps31
  go_wp2_with fail
  have g1 : w.grownBy (w.alloc (Obj.cells #[Value.bool false, Value.slice none 0 0, Value.slice none 0 0] 64)) none := gr_alloc (gr_refl w none) _
  have G1 := hide g1
  clear g1
  refine (divide_num _ _ n m L L _ (HU.out.keep0 G1.out) (HD.out.keep0 G1.out) hm (by omega)).mono ?_
  intro e w3 hD
  obtain ⟨q, r, rfl, k1, k2, k3, k4, k5⟩ := hD
  obtain ⟨qo, ql, qc, rfl, _, _, _⟩ := k1.shape
  obtain ⟨ro, rl, rc, rfl, r1, r2, r3⟩ := k2.shape
  unfold maxLen at r3
  have N1 := hide k1
  have N2 := hide k2
  have N3 := hide k3
  have G3 := hide (gr_none G1.out N3.out)
  clear k1 k2 k3 k4 k5
  by_cases h2 : rl = 0
  · have hr0 : Hid (n % m = 0) := r1.1 h2
    have bb : (((rl : Nat) : Int) == 0) = true := beq_iff_eq.2 (by omega)
    clear h2 r1
    obtain ⟨c0, c1, c2, cf⟩ := res_cells N3.out
    have cf0 := cf 0
    have cf1 := cf 1
    have cf2 := cf 2
    clear cf
    go_wp2
    refine bodyPost_ret (v := .agg #[.bool below, .slice qo ql qc, .slice none 0 0]) (by simp [results, Tryd.results31, go_sem, c0, c1, c2]) rfl ?_
    refine lowest_end rfl G3.out ?_ (.inl ⟨rfl, ?_⟩) (noWords_res N3.out) hcop.out hnG.out
    · rw [EA.out, (low_whole hr0.out hm).1]; exact N1.out
    · rw [EB.out, (low_whole hr0.out hm).2]
  · have hr0 : Hid (n % m ≠ 0) := fun e => h2 (r1.2 e)
    have bb : (((rl : Nat) : Int) == 0) = false := beq_eq_false_iff_ne.2 (by omega)
    have hB1 : Hid (1 < B) := by show 1 < B; rw [EB.out]; exact low_rest hr0.out hm
    clear h2 r1
    obtain ⟨xs0, x1, x2, x3, x4⟩ := HD.out.keep0 G3.out
    obtain ⟨ys0, y1, y2, y3, y4⟩ := N2.out
    obtain ⟨G, hG⟩ : ∃ G, G = Nat.gcd n m := ⟨_, rfl⟩
    have hGe : Nat.gcd (val xs0) (val ys0) = G := by rw [x3, y3, hG, Nat.gcd_comm, ← Nat.gcd_rec, Nat.gcd_comm]
    have hG0 : 0 < G := by rw [hG]; exact Nat.gcd_pos_of_pos_left _ hn
    have CD := hide (commonDivisor_ws _ _ xs0 ys0 _ x1 y1 x2 y2 (by omega) L x4 y4 (by omega))
    rw [hGe] at CD
    have HG := hide hG
    clear x1 x2 x3 x4 y1 y2 y3 y4 hGe hG
    go_wp2_with fail
    refine CD.out.mono ?_
    rintro e w4 ⟨g, rfl, k1, k2⟩
    obtain ⟨go, gl, gc, rfl, _, _, _⟩ := k1.shape
    have K1 := hide k1
    have K2 := hide k2
    have G4 := hide (gr_none G3.out K2.out)
    have N34 := hide (gr_none N3.out K2.out)
    clear k1 k2
    go_wp2_with fail
    refine (over_at _ _ n G L _ (HU.out.keep0 G4.out) K1.out hG0 (by omega)).mono ?_
    rintro e w6 ⟨q1, rfl, k1, k3⟩
    obtain ⟨qo1, ql1, qc1, rfl, _, _, _⟩ := k1.shape
    have M1 := hide k1
    have M3 := hide k3
    clear k1 k3
    go_wp2_with fail
    refine (over_at _ _ m G L _ (HD.out.keep0 (gr_none G4.out M3.out)) (K1.out.keep0 M3.out) hG0 (by omega)).mono ?_
    rintro e w7 ⟨q2, rfl, k1, k3⟩
    obtain ⟨qo2, ql2, qc2, rfl, _, _, _⟩ := k1.shape
    have P1 := hide k1
    have P3 := hide k3
    clear k1 k3
    have K7 := hide (gr_none N34.out (gr_none M3.out P3.out))
    have G7 := hide (gr_none G4.out (gr_none M3.out P3.out))
    obtain ⟨c0, c1, c2, cf⟩ := res_cells K7.out
    have cf0 := cf 0
    have cf1 := cf 1
    have cf2 := cf 2
    clear cf
    go_wp2
    refine bodyPost_ret (v := .agg #[.bool below, .slice qo1 ql1 qc1, .slice qo2 ql2 qc2]) (by simp [results, Tryd.results31, go_sem, c0, c1, c2]) rfl ?_
    refine lowest_end rfl G7.out ?_ (.inr ⟨?_, hB1.out⟩) (noWords_res K7.out) hcop.out hnG.out
    · rw [EA.out, ← HG.out]; exact M1.out.keep0 P3.out
    · rw [EB.out, ← HG.out]; exact P1.out
end Go.Proofs.YtfhamfgcjdhmdaaDoor
