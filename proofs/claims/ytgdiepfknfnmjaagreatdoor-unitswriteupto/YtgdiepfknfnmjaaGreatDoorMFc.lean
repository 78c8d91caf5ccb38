/- frac: isOne, lowest. -/
import Derived.Test.YtgdiepfknfnmjaaGreatDoorFGcd
import Derived.Test.YtgdiepfknfnmjaaGreatDoorMFa
import Derived.Test.YtgdiepfknfnmjaaGreatDoorMFb
import Derived.Deep.RegionHeld3
namespace Go.Proofs.YtgdiepfknfnmjaaGreatDoor
open Go.RowKit
set_option linter.unusedVariables false

theorem one_iff {xs : List Nat} (hs : Sm xs) (ht : Tr xs) : (xs == [1]) = decide (val xs = 1) := by
  rw [Bool.eq_iff_iff]
  simp only [beq_iff_eq, decide_eq_true_eq]
  constructor
  · intro e; rw [e]; simp [val]
  · intro e
    refine val_inj hs (Sm.cons (by decide) Sm.nil) ht (by simp [Tr, trimL]) ?_
    rw [e]; simp [val]

theorem isOne_yes (v : Value) (L : Nat) (w : World) (h : Num w v 1 L) : Calls Tryz.prog 103 #[v] w fun e w' => e = .returned (.bool true) ∧ w' = w := by
  obtain ⟨xs, h1, h2, h3, h4⟩ := h
  refine (fisOne_ws v xs w h1).mono ?_
  rintro e w' ⟨rfl, rfl⟩
  rw [one_iff h1.sm h2, h3]
  exact ⟨rfl, rfl⟩

theorem isOne_no (v : Value) (n L : Nat) (w : World) (h : Num w v n L) (hn : n ≠ 1) : Calls Tryz.prog 103 #[v] w fun e w' => e = .returned (.bool false) ∧ w' = w := by
  obtain ⟨xs, h1, h2, h3, h4⟩ := h
  refine (fisOne_ws v xs w h1).mono ?_
  rintro e w' ⟨rfl, rfl⟩
  rw [one_iff h1.sm h2, h3]
  exact ⟨by simp [hn], rfl⟩

/-- v is the fraction n over d in lowest terms, below 0 or not. -/
def FV (w : World) (v : Value) (neg : Bool) (n d L : Nat) : Prop :=
  ∃ up down, v = .agg #[.bool neg, up, down] ∧ Num w up n L ∧ ((down = .slice none 0 0 ∧ d = 1) ∨ (Num w down d L ∧ 1 < d)) ∧ Nat.gcd n d = 1 ∧ (neg = true → 0 < n)

theorem FV.keep0 {w w' : World} {v : Value} {neg : Bool} {n d L : Nat} (h : FV w v neg n d L) (hg : w.grownBy w' none) : FV w' v neg n d L := by
  obtain ⟨up, down, e, h1, h2, h3, h4⟩ := h
  refine ⟨up, down, e, h1.keep0 hg, ?_, h3, h4⟩
  rcases h2 with h2 | ⟨h2, h5⟩
  · exact .inl h2
  · exact .inr ⟨h2.keep0 hg, h5⟩

/-- What lowest answers. -/
def LowE (w : World) (neg : Bool) (n d L : Nat) (e : Ending) (w' : World) : Prop := ∃ v, e = .returned v ∧ FV w' v neg n d L ∧ w.grownBy w' none

set_option maxHeartbeats 1000000 in
set_option maxRecDepth 10000 in
theorem lowest_zero (below : Bool) (u d : Value) (n m L : Nat) (w : World) (hu : Num w u n L) (hd : Num w d m L) (h0 : n = 0 ∨ m = 0) :
    Calls Tryz.prog 59 #[.bool below, u, d] w fun e w' => LowE w false 0 1 L e w' := by
  obtain ⟨uo, ul, uc, rfl, u1, u2, u3⟩ := hu.shape
  obtain ⟨do_, dl, dc, rfl, d1, d2, d3⟩ := hd.shape
  unfold maxLen at u3 d3
  have hz : ul = 0 ∨ dl = 0 := by
    rcases h0 with h | h
    · exact .inl (u1.2 h)
    · exact .inr (d1.2 h)
  clear u1 d1 h0 hu hd
  have hend : LowE w false 0 1 L (.returned (.agg #[.bool false, .slice none 0 0, .slice none 0 0])) (w.alloc (Obj.cells #[Value.bool false, Value.slice none 0 0, Value.slice none 0 0] 45)) :=
    ⟨_, rfl, ⟨_, _, rfl, ⟨[], Ws.nil _, rfl, rfl, by simp⟩, .inl ⟨rfl, rfl⟩, rfl, by simp⟩, gr_alloc (gr_refl _ _) _⟩
  have HEND := hide hend
  clear hend
  by_cases hz1 : ul = 0
  · subst hz1
    clear hz
    go_enter Tryz.func59, Tryz.ntmps59
    go_wp2
    exact bodyPost_ret (v := .agg #[.bool false, .slice none 0 0, .slice none 0 0]) (by simp [results, Tryz.results59, go_sem]) rfl HEND.out
  · obtain rfl : dl = 0 := by omega
    have hb : (((ul : Nat) : Int) == 0) = false := beq_eq_false_iff_ne.2 (by omega)
    clear hz hz1
    go_enter Tryz.func59, Tryz.ntmps59
    go_wp2
    exact bodyPost_ret (v := .agg #[.bool false, .slice none 0 0, .slice none 0 0]) (by simp [results, Tryz.results59, go_sem]) rfl HEND.out

/-- The block of what is answered holds no words. -/
def NoWords (w : World) (g : Nat) : Prop := ∀ i (x : Nat), w.cell? ⟨g, i, none⟩ ≠ some (.int .u32 (x : Nat))

theorem noWords_res {w W : World} {b : Bool} (h : (w.alloc (Obj.cells #[.bool b, .slice none 0 0, .slice none 0 0] 45)).grownBy W none) : NoWords W w.heap.size := by
  have e : W.heap[w.heap.size]? = some (Obj.cells #[.bool b, .slice none 0 0, .slice none 0 0] 45 (0, 0)) := by
    rw [h.block w.heap.size (by simp) (by simp)]
    exact heap_alloc_new w _
  intro i x
  match i with
  | 0 => simp [World.cell?, e]
  | 1 => simp [World.cell?, e]
  | 2 => simp [World.cell?, e]
  | i + 3 => simp [World.cell?, e]

theorem Num.other {w w' : World} {v : Value} {n L g : Nat} (h : Num w v n L) (hg : NoWords w g) (hgr : w.grownBy w' (some g)) : Num w' v n L := by
  obtain ⟨xs, h1, h2, h3, h4⟩ := h
  refine ⟨xs, ?_, h2, h3, h4⟩
  by_cases h0 : xs.length = 0
  · refine ⟨h1.sm, ?_⟩
    rcases h1.sh with h | ⟨b, off, cap, rfl, hb, hl, hm, hc⟩
    · exact .inl h
    · exact .inr ⟨b, off, cap, rfl, Nat.lt_of_lt_of_le hb hgr.size, hl, hm, fun i hi => by omega⟩
  · refine h1.keep hgr ?_
    intro k e hk
    cases e
    obtain ⟨ao, cap, rfl, _, _, hc⟩ := h1.open
    obtain ⟨b, off, rfl, _, hcell⟩ := hc 0 (by omega)
    simp [blockOf] at hk
    subst hk
    exact hg _ _ hcell

/-- v lies in another block than g. -/
def Off (g : Nat) (v : Value) : Prop := ∀ k, blockOf v = some k → k ≠ g

theorem Num.off {w : World} {v : Value} {n L : Nat} (h : Num w v n L) : Off w.heap.size v := by
  obtain ⟨xs, h1, _⟩ := h
  intro k hk
  have := h1.blk k hk
  omega

theorem Fresh.off {w : World} {v : Value} {g : Nat} (h : Fresh w v) (hg : g < w.heap.size) : Off g v := fun k hk => by
  have := h k hk
  omega

theorem Num.set {w : World} {v : Value} {n L g i : Nat} {x : Value} (h : Num w v n L) (ho : Off g v) : Num (w.setCell ⟨g, i, none⟩ x) v n L :=
  h.keep (row := some g) ⟨rfl, rfl, rfl, by simp, fun k _ hr => heap_setCell_other _ _ _ _ (fun e => hr (by rw [e]))⟩ (fun k e hk => by cases e; exact ho g hk rfl)

/-- The cells of what is answered, in a world that has grown since. -/
theorem res_cells {w W : World} {b : Value} {u v : Value} (h : (w.alloc (Obj.cells #[b, u, v] 45)).grownBy W none) :
    W.cell? ⟨w.heap.size, 0, none⟩ = some b ∧ W.cell? ⟨w.heap.size, 1, none⟩ = some u ∧ W.cell? ⟨w.heap.size, 2, none⟩ = some v ∧ (∀ i, W.frozen? ⟨w.heap.size, i, none⟩ = false) := by
  have e : W.heap[w.heap.size]? = some (Obj.cells #[b, u, v] 45 (0, 0)) := by
    rw [h.block w.heap.size (by simp) (by simp)]
    exact heap_alloc_new w _
  refine ⟨?_, ?_, ?_, fun i => ?_⟩ <;> simp [World.cell?, World.frozen?, e]

/-- The end where the fraction is whole, or its words stand as they are. -/
theorem low_one (n : Nat) : n / Nat.gcd n 1 = n ∧ 1 / Nat.gcd n 1 = 1 := by rw [Nat.gcd_one_right]; simp

theorem low_whole {n m : Nat} (h : n % m = 0) (hm : 0 < m) : n / Nat.gcd n m = n / m ∧ m / Nat.gcd n m = 1 := by
  rw [Nat.gcd_eq_right (Nat.dvd_of_mod_eq_zero h)]
  exact ⟨rfl, Nat.div_self hm⟩

theorem low_rest {n m : Nat} (h : n % m ≠ 0) (hm : 0 < m) : 1 < m / Nat.gcd n m := by
  have hd : Nat.gcd n m ∣ m := Nat.gcd_dvd_right n m
  have hG : 0 < Nat.gcd n m := Nat.gcd_pos_of_pos_right _ hm
  have h1 : 0 < m / Nat.gcd n m := Nat.div_pos (Nat.gcd_le_right _ hm) hG
  rcases Nat.lt_or_ge 1 (m / Nat.gcd n m) with h2 | h2
  · exact h2
  · exfalso
    have e : m / Nat.gcd n m = 1 := by omega
    have e2 : m = Nat.gcd n m := by
      have := Nat.div_mul_cancel hd
      rw [e, Nat.one_mul] at this
      exact this.symm
    have hdn : m ∣ n := by rw [e2]; exact Nat.gcd_dvd_left n m
    exact h (Nat.mod_eq_zero_of_dvd hdn)

/-- What over answers: x divided by a divisor of it. -/
def OverE (w : World) (n L : Nat) (e : Ending) (w' : World) : Prop := ∃ v, e = .returned v ∧ Num w' v n L ∧ w.grownBy w' none

set_option maxHeartbeats 1000000 in
theorem over_at (x y : Value) (n G L : Nat) (w : World) (hx : Num w x n L) (hy : Num w y G L) (h0 : 0 < G) (hl : L ≤ 800000000) :
    Calls Tryz.prog 66 #[x, y] w fun e w' => OverE w (n / G) L e w' := by
  obtain ⟨uo, ul, uc, rfl, u1, u2, u3⟩ := hx.shape
  obtain ⟨do_, dl, dc, rfl, d1, d2, d3⟩ := hy.shape
  have HX := hide hx
  have HY := hide hy
  clear hx hy u1 d1
  by_cases h1 : G = 1
  · have HH1 := hide h1
    clear h1
    go_enter Tryz.func66, Tryz.ntmps66
    go_wp2_with fail
    refine (isOne_yes _ L _ (by have := HY.out; rw [HH1.out] at this; exact this)).mono ?_
    rintro e w2 ⟨rfl, rfl⟩
    go_wp2
    go_ret
    exact ⟨_, rfl, by rw [HH1.out, Nat.div_one]; exact HX.out, gr_refl _ _⟩
  · have HH1 := hide h1
    clear h1
    go_enter Tryz.func66, Tryz.ntmps66
    go_wp2_with fail
    refine (isOne_no _ G L _ HY.out HH1.out).mono ?_
    rintro e w2 ⟨rfl, rfl⟩
    go_wp2_with fail
    refine (divide_num _ _ n G L L _ HX.out HY.out h0 (by omega)).mono ?_
    intro e w6 hD
    obtain ⟨q, r, rfl, k1, k2, k3, k4, k5⟩ := hD
    obtain ⟨qo, ql, qc, rfl, _, _, _⟩ := k1.shape
    obtain ⟨ro, rl, rc, rfl, _, _, _⟩ := k2.shape
    have M1 := hide k1
    have M3 := hide k3
    clear k1 k2 k3 k4 k5
    go_wp2
    go_ret
    exact ⟨_, rfl, M1.out, M3.out⟩

theorem gr_three {w : World} {g : Nat} {a b c : Value} : w.grownBy (((w.setCell ⟨g, 0, none⟩ a).setCell ⟨g, 1, none⟩ b).setCell ⟨g, 2, none⟩ c) (some g) :=
  gr_row (gr_row (gr_row (gr_refl _ _) g 0 _ rfl) g 1 _ rfl) g 2 _ rfl

/-- The end of lowest: what is stored. -/
theorem lowest_end {w W : World} {g n d L : Nat} {below : Bool} {u v : Value} (hg : g = w.heap.size) (hw : w.grownBy W none) (hu : Num W u n L) (hv : (v = .slice none 0 0 ∧ d = 1) ∨ (Num W v d L ∧ 1 < d)) (nw : NoWords W g) (hc : Nat.gcd n d = 1) (hn : 0 < n) :
    LowE w below n d L (.returned (.agg #[.bool below, u, v])) (((W.setCell ⟨g, 0, none⟩ (.bool below)).setCell ⟨g, 1, none⟩ u).setCell ⟨g, 2, none⟩ v) := by
  refine ⟨_, rfl, ⟨u, v, rfl, hu.other nw gr_three, ?_, hc, fun _ => hn⟩, ?_⟩
  · rcases hv with h | ⟨h, h1⟩
    · exact .inl h
    · exact .inr ⟨h.other nw gr_three, h1⟩
  · subst hg
    exact gr_set (gr_set (gr_set hw _ _ (Nat.le_refl _)) _ _ (Nat.le_refl _)) _ _ (Nat.le_refl _)

set_option maxHeartbeats 2000000 in
set_option maxRecDepth 10000 in
theorem lowest_pos (below : Bool) (u d : Value) (n m L : Nat) (w : World) (hu : Num w u n L) (hd : Num w d m L) (hn : 0 < n) (hm : 0 < m) (hl : L ≤ 800000000) :
    Calls Tryz.prog 59 #[.bool below, u, d] w fun e w' => LowE w below (n / Nat.gcd n m) (m / Nat.gcd n m) L e w' := by
  obtain ⟨uo, ul, uc, rfl, u1, u2, u3⟩ := hu.shape
  obtain ⟨do_, dl, dc, rfl, d1, d2, d3⟩ := hd.shape
  unfold maxLen at u3 d3
  have hul : 0 < ul := by
    rcases Nat.eq_zero_or_pos ul with h | h
    · have := u1.1 h; omega
    · exact h
  have hdl : 0 < dl := by
    rcases Nat.eq_zero_or_pos dl with h | h
    · have := d1.1 h; omega
    · exact h
  have hb1 : (((ul : Nat) : Int) == 0) = false := beq_eq_false_iff_ne.2 (by omega)
  have hb2 : (((dl : Nat) : Int) == 0) = false := beq_eq_false_iff_ne.2 (by omega)
  have HU := hide hu
  have HD := hide hd
  have hnG : Hid (0 < n / Nat.gcd n m) := Nat.div_pos (Nat.gcd_le_left _ hn) (Nat.gcd_pos_of_pos_left _ hn)
  have hcop : Hid (Nat.gcd (n / Nat.gcd n m) (m / Nat.gcd n m) = 1) := by
    show _ = _
    rw [Nat.gcd_div (Nat.gcd_dvd_left n m) (Nat.gcd_dvd_right n m), Nat.div_self (Nat.gcd_pos_of_pos_left _ hn)]
  obtain ⟨A, hA⟩ : ∃ A, A = n / Nat.gcd n m := ⟨_, rfl⟩
  obtain ⟨B, hB⟩ : ∃ B, B = m / Nat.gcd n m := ⟨_, rfl⟩
  rw [← hA] at hnG hcop ⊢
  rw [← hB] at hcop ⊢
  have EA := hide hA
  have EB := hide hB
  clear hu hd u1 d1 hA hB
  go_enter Tryz.func59, Tryz.ntmps59
  go_wp2_with fail
  have g1 : w.grownBy (w.alloc (Obj.cells #[Value.bool false, Value.slice none 0 0, Value.slice none 0 0] 45)) none := gr_alloc (gr_refl w none) _
  have G1 := hide g1
  clear g1
  refine (divide_num _ _ n m L L _ (HU.out.keep0 G1.out) (HD.out.keep0 G1.out) hm (by omega)).mono ?_
  intro e w3 hD
  obtain ⟨q, r, rfl, k1, k2, k3, k4, k5⟩ := hD
  obtain ⟨qo, ql, qc, rfl, _, _, _⟩ := k1.shape
  obtain ⟨ro, rl, rc, rfl, r1, r2, r3⟩ := k2.shape
  unfold maxLen at r3
  have N1 := hide k1
  have N2 := hide k2
  have N3 := hide k3
  have G3 := hide (gr_none G1.out N3.out)
  clear k1 k2 k3 k4 k5
  by_cases h2 : rl = 0
  · have hr0 : Hid (n % m = 0) := r1.1 h2
    have bb : (((rl : Nat) : Int) == 0) = true := beq_iff_eq.2 (by omega)
    clear h2 r1
    obtain ⟨c0, c1, c2, cf⟩ := res_cells N3.out
    have cf0 := cf 0
    have cf1 := cf 1
    have cf2 := cf 2
    clear cf
    go_wp2
    refine bodyPost_ret (v := .agg #[.bool below, .slice qo ql qc, .slice none 0 0]) (by simp [results, Tryz.results59, go_sem, c0, c1, c2]) rfl ?_
    refine lowest_end rfl G3.out ?_ (.inl ⟨rfl, ?_⟩) (noWords_res N3.out) hcop.out hnG.out
    · rw [EA.out, (low_whole hr0.out hm).1]; exact N1.out
    · rw [EB.out, (low_whole hr0.out hm).2]
  · have hr0 : Hid (n % m ≠ 0) := fun e => h2 (r1.2 e)
    have bb : (((rl : Nat) : Int) == 0) = false := beq_eq_false_iff_ne.2 (by omega)
    have hB1 : Hid (1 < B) := by show 1 < B; rw [EB.out]; exact low_rest hr0.out hm
    clear h2 r1
    obtain ⟨xs0, x1, x2, x3, x4⟩ := HD.out.keep0 G3.out
    obtain ⟨ys0, y1, y2, y3, y4⟩ := N2.out
    obtain ⟨G, hG⟩ : ∃ G, G = Nat.gcd n m := ⟨_, rfl⟩
    have hGe : Nat.gcd (val xs0) (val ys0) = G := by rw [x3, y3, hG, Nat.gcd_comm, ← Nat.gcd_rec, Nat.gcd_comm]
    have hG0 : 0 < G := by rw [hG]; exact Nat.gcd_pos_of_pos_left _ hn
    have CD := hide (commonDivisor_ws _ _ xs0 ys0 _ x1 y1 x2 y2 (by omega) L x4 y4 (by omega))
    rw [hGe] at CD
    have HG := hide hG
    clear x1 x2 x3 x4 y1 y2 y3 y4 hGe hG
    go_wp2_with fail
    refine CD.out.mono ?_
    rintro e w4 ⟨g, rfl, k1, k2⟩
    obtain ⟨go, gl, gc, rfl, _, _, _⟩ := k1.shape
    have K1 := hide k1
    have K2 := hide k2
    have G4 := hide (gr_none G3.out K2.out)
    have N34 := hide (gr_none N3.out K2.out)
    clear k1 k2
    go_wp2_with fail
    refine (over_at _ _ n G L _ (HU.out.keep0 G4.out) K1.out hG0 (by omega)).mono ?_
    rintro e w6 ⟨q1, rfl, k1, k3⟩
    obtain ⟨qo1, ql1, qc1, rfl, _, _, _⟩ := k1.shape
    have M1 := hide k1
    have M3 := hide k3
    clear k1 k3
    go_wp2_with fail
    refine (over_at _ _ m G L _ (HD.out.keep0 (gr_none G4.out M3.out)) (K1.out.keep0 M3.out) hG0 (by omega)).mono ?_
    rintro e w7 ⟨q2, rfl, k1, k3⟩
    obtain ⟨qo2, ql2, qc2, rfl, _, _, _⟩ := k1.shape
    have P1 := hide k1
    have P3 := hide k3
    clear k1 k3
    have K7 := hide (gr_none N34.out (gr_none M3.out P3.out))
    have G7 := hide (gr_none G4.out (gr_none M3.out P3.out))
    obtain ⟨c0, c1, c2, cf⟩ := res_cells K7.out
    have cf0 := cf 0
    have cf1 := cf 1
    have cf2 := cf 2
    clear cf
    go_wp2
    refine bodyPost_ret (v := .agg #[.bool below, .slice qo1 ql1 qc1, .slice qo2 ql2 qc2]) (by simp [results, Tryz.results59, go_sem, c0, c1, c2]) rfl ?_
    refine lowest_end rfl G7.out ?_ (.inr ⟨?_, hB1.out⟩) (noWords_res K7.out) hcop.out hnG.out
    · rw [EA.out, ← HG.out]; exact M1.out.keep0 P3.out
    · rw [EB.out, ← HG.out]; exact P1.out
end Go.Proofs.YtgdiepfknfnmjaaGreatDoor

namespace Go.Proofs.YtgdiepfknfnmjaaGreatDoor
open Go.RowKit
set_option linter.unusedVariables false

/-- A digit. -/
def isD (c : UInt8) : Bool := 48 ≤ c.toNat && c.toNat ≤ 57

/-- How many digits a list begins with. -/
def runD (l : List UInt8) : Nat := (l.takeWhile isD).length

theorem runD_le (l : List UInt8) : runD l ≤ l.length := by
  unfold runD
  have := (List.takeWhile_prefix isD (l := l)).length_le
  exact this

theorem runD_cons (c : UInt8) (l : List UInt8) : runD (c :: l) = if isD c then runD l + 1 else 0 := by
  unfold runD
  rw [List.takeWhile_cons]
  split <;> simp

theorem drop_byte (s : ByteArray) (k : Nat) (h : k < s.size) : s.data.toList.drop k = s[k] :: s.data.toList.drop (k + 1) := by
  rw [List.drop_eq_getElem_cons (by simpa using h)]
  rfl

def EndR (s : ByteArray) (E : Nat) (v : Value) : Prop := ∃ k : Nat, k ≤ s.size ∧ v = .int .i64 k ∧ Hid (k + runD (s.data.toList.drop k) = E)

set_option maxHeartbeats 400000 in
theorem digitsEnd_at (s : ByteArray) (k0 : Nat) (w : World) (hs : s.size ≤ 1000000000) (hk0 : k0 ≤ s.size) :
    Calls Tryz.prog 14 #[.string s, .int .i64 (k0 : Nat)] w fun e w' => e = .returned (.int .i64 ((k0 + runD (s.data.toList.drop k0) : Nat) : Int)) ∧ w' = w := by
  obtain ⟨E, hE⟩ : ∃ E, k0 + runD (s.data.toList.drop k0) = E := ⟨_, rfl⟩
  rw [hE]
  have HE := hide hE
  clear hE
  go_enter Tryz.func14, Tryz.ntmps14
  go_wp2
  go_loop [1] (fun v => EndR s E v) (fun v => s.size - (intOf v).toNat)
  case atStart => exact ⟨k0, hk0, rfl, HE.out⟩
  case round =>
    obtain ⟨k, hk, rfl, HK⟩ := hrel
    by_cases hlt : k < s.size
    · have hd := drop_byte s k hlt
      have HDR := hide hd
      clear hd
      by_cases h1 : 48 ≤ s[k].toNat
      · by_cases h2 : s[k].toNat ≤ 57
        · have h1' : (48 : Int) ≤ (s[k].toNat : Int) := by omega
          have h2' : (s[k].toNat : Int) ≤ 57 := by omega
          go_wp2
          go_round
          case rel =>
            refine ⟨k + 1, by omega, by go_num, ?_⟩
            have := HK.out
            rw [HDR.out, runD_cons, if_pos (by simp [isD, h1, h2])] at this
            show _ = _
            omega
          case measure => simp [intOf]; omega
        · have h1' : (48 : Int) ≤ (s[k].toNat : Int) := by omega
          have h2' : ¬ (s[k].toNat : Int) ≤ 57 := by omega
          go_wp2
          go_ret
          refine ⟨?_, rfl⟩
          have := HK.out
          rw [HDR.out, runD_cons, if_neg (by simp [isD, h2])] at this
          rw [← this]
          rfl
      · have h1' : ¬ (48 : Int) ≤ (s[k].toNat : Int) := by omega
        go_wp2
        go_ret
        refine ⟨?_, rfl⟩
        have := HK.out
        rw [HDR.out, runD_cons, if_neg (by simp [isD, h1])] at this
        rw [← this]
        rfl
    · obtain rfl : k = s.size := by omega
      go_wp2
      go_ret
      refine ⟨?_, rfl⟩
      have := HK.out
      rw [List.drop_of_length_le (by simp)] at this
      rw [← this]
      rfl

/-- Digits alone, and not none. -/
def allD (l : List UInt8) : Bool := !l.isEmpty && l.all isD

theorem runD_all (l : List UInt8) : (runD l = l.length) ↔ l.all isD = true := by
  induction l with
  | nil => simp [runD]
  | cons c r ih =>
    rw [runD_cons]
    by_cases h : isD c
    · simp [h, ih]
    · simp [h]

set_option maxHeartbeats 400000 in
theorem isDigits_at (s : ByteArray) (w : World) (hs : s.size ≤ 1000000000) :
    Calls Tryz.prog 58 #[.string s] w fun e w' => e = .returned (.bool (allD s.data.toList)) ∧ w' = w := by
  by_cases h0 : s.size = 0
  · have e : s = ⟨#[]⟩ := by
      cases s with
      | mk d => cases d with
        | mk l =>
          cases l with
          | nil => rfl
          | cons a b => simp [ByteArray.size] at h0
    subst e
    go_enter Tryz.func58, Tryz.ntmps58
    go_wp2
    go_ret
    exact ⟨rfl, rfl⟩
  · have hne : ¬ s.toList = [] := by
      intro e
      apply h0
      rw [ByteArray.toList_eq] at e
      rw [Lib.size_eq, e]
      rfl
    have HAL : Hid (allD s.data.toList = decide (runD s.data.toList = s.size)) := by
      show _ = _
      rw [Bool.eq_iff_iff, decide_eq_true_eq]
      have := runD_all s.data.toList
      rw [Array.length_toList] at this
      rw [show s.size = s.data.size from rfl, this]
      unfold allD
      have h1 : s.data.toList.isEmpty = false := by
        cases hl : s.data.toList with
        | nil =>
          exfalso
          apply h0
          show s.data.size = 0
          rw [← Array.length_toList, hl]
          rfl
        | cons a b => rfl
      simp [h1]
    have hrl := runD_le s.data.toList
    rw [Array.length_toList, show s.data.size = s.size from rfl] at hrl
    go_enter Tryz.func58, Tryz.ntmps58
    go_wp2_with fail
    refine (digitsEnd_at s 0 _ hs (Nat.zero_le _)).mono ?_
    rintro e w1 ⟨rfl, rfl⟩
    rw [Nat.zero_add, List.drop_zero]
    have HB := HAL.out
    generalize runD s.data.toList = r at hrl HB ⊢
    have HC := hide HB
    have HNE := hide hne
    clear HB HAL hne
    go_wp2
    go_ret
    refine ⟨?_, rfl⟩
    rw [HC.out]
    show Ending.returned (.bool (!s.toList.isEmpty && ((r : Int) == (s.size : Int)))) = _
    have h1 : s.toList.isEmpty = false := by
      cases hl : s.toList with
      | nil => exact absurd hl HNE.out
      | cons a b => rfl
    rw [h1]
    congr 2
    rw [Bool.eq_iff_iff]
    simp
    omega
end Go.Proofs.YtgdiepfknfnmjaaGreatDoor

namespace Go.Proofs.YtgdiepfknfnmjaaGreatDoor
open Go.RowKit
set_option linter.unusedVariables false

/-- What digits say. -/
def decL (l : List UInt8) : Nat := l.foldl (fun a c => a * 10 + (c.toNat - 48)) 0

theorem dec_from (l : List UInt8) (a : Nat) : l.foldl (fun a (c : UInt8) => a * 10 + (c.toNat - 48)) a = a * 10 ^ l.length + decL l := by
  unfold decL
  induction l generalizing a with
  | nil => simp
  | cons c r ih =>
    rw [List.foldl_cons, ih, List.foldl_cons, ih (0 * 10 + (c.toNat - 48))]
    simp only [List.length_cons, Nat.pow_succ, Nat.zero_mul, Nat.zero_add, Nat.add_mul]
    rw [Nat.mul_assoc, Nat.mul_comm 10]
    omega

theorem dec_append (l r : List UInt8) : decL (l ++ r) = decL l * 10 ^ r.length + decL r := by
  have : decL (l ++ r) = r.foldl (fun a (c : UInt8) => a * 10 + (c.toNat - 48)) (decL l) := by simp [decL, List.foldl_append]
  rw [this, dec_from]

theorem dec_snoc (l : List UInt8) (c : UInt8) : decL (l ++ [c]) = decL l * 10 + (c.toNat - 48) := by simp [decL]

theorem dec_lt (l : List UInt8) (h : ∀ c ∈ l, isD c = true) : decL l < 10 ^ l.length := by
  have key : ∀ (n : Nat) (l : List UInt8), l.length = n → (∀ c ∈ l, isD c = true) → decL l < 10 ^ l.length := by
    intro n
    induction n with
    | zero => intro l hl _; have : l = [] := List.eq_nil_of_length_eq_zero hl; subst this; simp [decL]
    | succ n ih =>
      intro l hl h
      have hne : l ≠ [] := by intro e; subst e; simp at hl
      obtain ⟨F, p, rfl⟩ : ∃ F p, l = F ++ [p] := ⟨l.dropLast, l.getLast hne, (List.dropLast_concat_getLast hne).symm⟩
      have h1 := ih F (by simpa using hl) (fun c hc => h c (by simp [hc]))
      have h2 := h p (by simp)
      unfold isD at h2
      rw [Bool.and_eq_true, decide_eq_true_eq, decide_eq_true_eq] at h2
      rw [dec_snoc, List.length_append, List.length_singleton, Nat.pow_succ]
      omega
  exact key l.length l rfl h

theorem take_byte (s : ByteArray) (k : Nat) (h : k < s.size) : s.data.toList.take (k + 1) = s.data.toList.take k ++ [s[k]] := by
  rw [List.take_succ_eq_append_getElem (by simpa using h)]
  rfl

theorem cut_bytes (r : ByteArray) (i : Nat) (h : i ≤ r.size) : (r.extract i r.size).data.toList = r.data.toList.drop i ∧ (r.extract i r.size).size = r.size - i := by
  have e : (r.extract i r.size).data.toList = r.data.toList.drop i := by
    rw [ByteArray.data_extract, Array.toList_extract]
    show List.take (r.data.size - i) _ = _
    rw [List.take_of_length_le (by simp)]
  refine ⟨e, ?_⟩
  rw [Lib.size_eq, e, List.length_drop, Lib.size_eq]

theorem read_step (X D c i n : Nat) (l : List UInt8) (hl : l.length = n) (hi : i ≤ n) (hc : c = decL (l.take i)) (h : X * 10 ^ n + decL l = D) (h9 : X = 0 ∨ i = 9) : (X * 1000000000 + c) * 10 ^ (n - i) + decL (l.drop i) = D := by
  have e := dec_append (l.take i) (l.drop i)
  rw [List.take_append_drop, List.length_drop, hl, ← hc] at e
  rw [← h, e, Nat.add_mul, ← Nat.add_assoc]
  congr 2
  rcases h9 with h9 | h9
  · rw [h9]; simp
  · rw [Nat.mul_assoc]
    congr 1
    rw [show (1000000000 : Nat) = 10 ^ 9 from rfl, ← Nat.pow_add]
    congr 1
    omega

/-- readNat, on its way. -/
def ReadR (w : World) (D N : Nat) (dv ov : Value) (wr : World) : Prop :=
  ∃ (r : ByteArray) (xs : List Nat), dv = .string r ∧ Own wr w.heap.size ov xs ∧ Sm xs ∧ Tr xs ∧ w.grownBy wr none ∧ xs.length + r.size ≤ N ∧ val xs * 10 ^ r.size + decL r.data.toList = D ∧ (∀ c ∈ r.data.toList, isD c = true) ∧ (val xs = 0 ∨ r.size % 9 = 0)

def sizeOfS : Value → Nat
  | .string s => s.size
  | _ => 0

def ChunkR (r : ByteArray) (cv iv : Value) (k : Nat) : Prop := ∃ i c : Nat, i ≤ k ∧ iv = .int .i64 i ∧ cv = .int .u32 c ∧ Hid (c = decL (r.data.toList.take i))

set_option maxHeartbeats 1000000 in
set_option maxRecDepth 10000 in
theorem readNat_at (s : ByteArray) (w : World) (hs : s.size ≤ 700000000) (hd : ∀ c ∈ s.data.toList, isD c = true) :
    Calls Tryz.prog 60 #[.string s] w fun e w' => ∃ v, e = .returned v ∧ Num w' v (decL s.data.toList) s.size ∧ w.grownBy w' none ∧ Fresh w v := by
  have HD := hide hd
  clear hd
  go_enter Tryz.func60, Tryz.ntmps60
  go_wp2
  go_loopw [0, 3] (fun dv ov wr => Hid (ReadR w (decL s.data.toList) s.size dv ov wr)) (fun dv _ _ => sizeOfS dv)
  case atStart => exact ⟨s, [], rfl, own_nil _ _, Sm.nil, rfl, gr_refl _ _, by simp, by simp [val], HD.out, .inl rfl⟩
  case round =>
    obtain ⟨r, xs, rfl, h1, h2, h3, h4, h5, h6, h7, h8⟩ := hrel.out
    obtain ⟨ao, cap, ev, hc1, hc2, _⟩ := h1.open
    subst ev
    have H1 := hide h1
    have H2 := hide h2
    have H3 := hide h3
    have H4 := hide h4
    have H6 := hide h6
    have H7 := hide h7
    have H8 := hide h8
    clear h1 h2 h3 h4 h6 h7 h8 hrel
    by_cases hr : 0 < r.size
    · obtain ⟨k, hk⟩ : ∃ k, k = (r.size - 1) % 9 + 1 := ⟨_, rfl⟩
      have hk1 : 1 ≤ k := by omega
      have hk2 : k ≤ 9 := by omega
      have hk3 : k ≤ r.size := by omega
      have hk' : (((r.size : Int) - 1) % 9 + 1) = (k : Int) := by omega
      have hk'' : (((r.size : Int) - 1).tmod 9 + 1) = (k : Int) := by rw [Int.tmod_eq_emod_of_nonneg (by omega)]; exact hk'
      have HK := hide hk
      clear hk
      go_wp2
      go_loop [5, 16] (fun cv iv => ChunkR r cv iv k) (fun _ iv => k - (intOf iv).toNat)
      case atStart => exact ⟨0, 0, by omega, rfl, rfl, by simp [decL, Hid]⟩
      case round =>
        obtain ⟨i, c, hi, rfl, rfl, HC⟩ := hrel
        by_cases hlt : i < k
        · have hib : i < r.size := by omega
          have hdig : isD r[i] = true := H7.out _ (by
            have : r[i] = r.data.toList[i]'(by simpa using hib) := rfl
            rw [this]; exact List.getElem_mem _)
          unfold isD at hdig
          rw [Bool.and_eq_true, decide_eq_true_eq, decide_eq_true_eq] at hdig
          obtain ⟨hd1, hd2⟩ := hdig
          have hcb : c ≤ 99999999 := by
            have h9 := dec_lt (r.data.toList.take i) (fun c hc => H7.out c (List.mem_of_mem_take hc))
            rw [← HC.out, List.length_take] at h9
            have h10 : 10 ^ min i r.data.toList.length ≤ 10 ^ 8 := Nat.pow_le_pow_right (by decide) (by omega)
            omega
          have HTB := hide (take_byte r i hib)
          clear hk' hk''
          go_wp2
          go_round
          case rel =>
            refine ⟨i + 1, c * 10 + (r[i].toNat - 48), by omega, by go_num, by go_num, ?_⟩
            show _ = _
            rw [HTB.out, dec_snoc, ← HC.out]
          case measure => simp [intOf]; omega
        · obtain rfl : i = k := by omega
          have hcb : c ≤ 999999999 := by
            have h9 := dec_lt (r.data.toList.take i) (fun c hc => H7.out c (List.mem_of_mem_take hc))
            rw [← HC.out, List.length_take] at h9
            have h10 : 10 ^ min i r.data.toList.length ≤ 10 ^ 9 := Nat.pow_le_pow_right (by decide) (by omega)
            omega
          clear hk' hk''
          go_wp2_with fail
          refine (grow_own _ xs 1000000000 c _ w.heap.size H1.out H2.out (by omega) (by omega) (by omega) H4.out.size).mono ?_
          rintro e w2 ⟨v', rfl, hgrown⟩
          obtain ⟨go, gc, gl, rfl⟩ : ∃ go gc gl, v' = .slice go gl gc := by
            obtain ⟨_, o1, _⟩ := hgrown
            obtain ⟨go, gc, e, _⟩ := o1.open
            exact ⟨_, _, _, e⟩
          have HGR := hide hgrown
          clear hgrown
          obtain ⟨hb1, hb2⟩ := cut_bytes r i hk3
          have HB1 := hide hb1
          have HB2 := hide hb2
          clear hb1 hb2
          go_wp2
          refine ⟨?_, ?_⟩
          · obtain ⟨ys, o1, o2, o3, o4, o5, o6⟩ := HGR.out
            have hk := HK.out
            refine ⟨r.extract i r.size, ys, rfl, o1, o2, o6 H3.out (by decide), gr_trans (r2 := blockOf (.slice ao xs.length cap)) H4.out o5 (fun _ _ e => e) (fun b hb e => by have := (H1.out.fresh b e.symm).1; omega), ?_, ?_, ?_, .inr ?_⟩
            · rw [HB2.out]; omega
            · rw [HB2.out, HB1.out, o3]
              refine read_step (val xs) _ c i r.size r.data.toList (by rw [Lib.size_eq]) hk3 HC.out H6.out ?_
              rcases H8.out with h | h
              · exact .inl h
              · right; omega
            · rw [HB1.out]
              intro c hc
              exact H7.out c (List.mem_of_mem_drop hc)
            · rw [HB2.out]; omega
          · show (r.extract i r.size).size < r.size
            rw [HB2.out]
            omega
    · have hr0 : r.size = 0 := by omega
      have hrl : r.data.toList = [] := List.eq_nil_of_length_eq_zero (by rw [← Lib.size_eq]; exact hr0)
      have HRL := hide hrl
      have HR0 := hide hr0
      clear hrl hr0
      go_wp2
      go_ret
      refine ⟨_, rfl, ?_, H4.out, H1.out.fr⟩
      have h6 := H6.out
      rw [HR0.out, HRL.out] at h6
      have : val xs = decL s.data.toList := by
        rw [← h6]
        simp [decL]
      rw [← this]
      exact H1.out.num H2.out H3.out _ (by omega)
end Go.Proofs.YtgdiepfknfnmjaaGreatDoor

namespace Go.Proofs.YtgdiepfknfnmjaaGreatDoor
open Go.RowKit
set_option linter.unusedVariables false

/-- Lowest terms: below 0 or not, what is above the bar, what is below. -/
def lowQ (b : Bool) (n d : Nat) : Bool × Nat × Nat := if n = 0 ∨ d = 0 then (false, 0, 1) else (b, n / Nat.gcd n d, d / Nat.gcd n d)

/-- What stands below the bar. -/
def downOf (l : List UInt8) : List UInt8 := if (Lib.cut l [47]).2.2 then (Lib.cut l [47]).2.1 else [49]

/-- What a text counts as. -/
def ofQ (l : List UInt8) : Bool × Nat × Nat :=
  if allD (Lib.cut (Lib.trimPrefix l [45]) [47]).1 && allD (downOf (Lib.trimPrefix l [45])) then
    lowQ (Lib.hasPrefix l [45]) (decL (Lib.cut (Lib.trimPrefix l [45]) [47]).1) (decL (downOf (Lib.trimPrefix l [45])))
  else (false, 0, 1)

theorem cut_le (l sep : List UInt8) : (Lib.cut l sep).1.length ≤ l.length ∧ (Lib.cut l sep).2.1.length ≤ l.length := by
  unfold Lib.cut
  split
  · simp only [List.length_take, List.length_drop]; omega
  · simp

theorem trimPrefix_le (l p : List UInt8) : (Lib.trimPrefix l p).length ≤ l.length := by
  unfold Lib.trimPrefix
  split
  · simp
  · exact Nat.le_refl _

theorem bytes_of (l : List UInt8) : (⟨l.toArray⟩ : ByteArray).data.toList = l := rfl
theorem size_of (l : List UInt8) : (⟨l.toArray⟩ : ByteArray).size = l.length := by simp [ByteArray.size]

theorem allD_all {l : List UInt8} (h : allD l = true) : ∀ c ∈ l, isD c = true := by
  unfold allD at h
  rw [Bool.and_eq_true] at h
  exact fun c hc => List.all_eq_true.1 h.2 c hc

/-- What Of answers. -/
def OfE (w : World) (l : List UInt8) (L : Nat) (e : Ending) (w' : World) : Prop := ∃ v, e = .returned v ∧ FV w' v (ofQ l).1 (ofQ l).2.1 (ofQ l).2.2 L ∧ w.grownBy w' none

/-- lowest, in one sentence. -/
theorem lowest_at (below : Bool) (u d : Value) (n m L : Nat) (w : World) (hu : Num w u n L) (hd : Num w d m L) (hl : L ≤ 800000000) :
    Calls Tryz.prog 59 #[.bool below, u, d] w fun e w' => LowE w (lowQ below n m).1 (lowQ below n m).2.1 (lowQ below n m).2.2 L e w' := by
  by_cases h : n = 0 ∨ m = 0
  · have e : lowQ below n m = (false, 0, 1) := by unfold lowQ; rw [if_pos h]
    rw [e]
    exact lowest_zero below u d n m L w hu hd h
  · have e : lowQ below n m = (below, n / Nat.gcd n m, m / Nat.gcd n m) := by unfold lowQ; rw [if_neg h]
    rw [e]
    exact lowest_pos below u d n m L w hu hd (by omega) (by omega) hl

theorem FV.other {w w' : World} {v : Value} {neg : Bool} {n d L g : Nat} (h : FV w v neg n d L) (hg : NoWords w g) (hgr : w.grownBy w' (some g)) : FV w' v neg n d L := by
  obtain ⟨up, down, e, h1, h2, h3, h4⟩ := h
  refine ⟨up, down, e, h1.other hg hgr, ?_, h3, h4⟩
  rcases h2 with h2 | ⟨h2, h5⟩
  · exact .inl h2
  · exact .inr ⟨h2.other hg hgr, h5⟩

theorem FV.shape {w : World} {v : Value} {neg : Bool} {n d L : Nat} (h : FV w v neg n d L) : ∃ uo ul uc do_ dl dc, v = .agg #[.bool neg, .slice uo ul uc, .slice do_ dl dc] := by
  obtain ⟨up, down, e, h1, h2, h3, h4⟩ := h
  obtain ⟨uo, ul, uc, rfl, _⟩ := h1.shape
  rcases h2 with ⟨rfl, _⟩ | ⟨h2, _⟩
  · exact ⟨_, _, _, _, _, _, e⟩
  · obtain ⟨do_, dl, dc, rfl, _⟩ := h2.shape
    exact ⟨_, _, _, _, _, _, e⟩

theorem FV.set {w : World} {v : Value} {neg : Bool} {n d L g i : Nat} {x up down : Value} (hv : v = .agg #[.bool neg, up, down]) (h : FV w v neg n d L) (h1 : Off g up) (h2 : Off g down) : FV (w.setCell ⟨g, i, none⟩ x) v neg n d L := by
  obtain ⟨up', down', e, k1, k2, k3, k4⟩ := h
  subst hv
  simp only [Value.agg.injEq, Array.mk.injEq, List.cons.injEq, and_true, true_and] at e
  obtain ⟨rfl, rfl⟩ := e
  refine ⟨_, _, rfl, k1.set h1, ?_, k3, k4⟩
  rcases k2 with k2 | ⟨k2, k5⟩
  · exact .inl k2
  · exact .inr ⟨k2.set h2, k5⟩

theorem of_none {w w' : World} {l : List UInt8} {L : Nat} (h : ofQ l = (false, 0, 1)) (hg : w.grownBy w' none) : OfE w l L (.returned (.agg #[.bool false, .slice none 0 0, .slice none 0 0])) w' := by
  refine ⟨_, rfl, ?_, hg⟩
  rw [h]
  exact ⟨_, _, rfl, ⟨[], Ws.nil _, rfl, rfl, by simp⟩, .inl ⟨rfl, rfl⟩, rfl, by simp⟩

set_option maxHeartbeats 2000000 in
set_option maxRecDepth 10000 in
theorem of_at (s : ByteArray) (m : Int) (w : World) (hs : s.size ≤ 600000000) (hml : w.cell? ⟨5, 0, none⟩ = some (.int .i64 m)) :
    Calls Tryz.prog 17 #[.string s] w fun e w' => OfE w s.data.toList (s.size + 1) e w' := by
  have hml2 : (w.alloc (Obj.cells #[Value.bool false, Value.slice none 0 0, Value.slice none 0 0] 45)).cell? ⟨5, 0, none⟩ = some (.int .i64 m) :=
    (World.grownBy_alloc w _ none).cell hml (by simp)
  have HML := hide hml2
  clear hml hml2
  go_enter Tryz.func17, Tryz.ntmps17
  go_wp2_with fail
  refine (Tryz.strings_CutPrefix s ⟨#[45]⟩ _).mono ?_
  rintro e w1 ⟨rfl, rfl⟩
  rw [show (⟨#[45]⟩ : ByteArray).data.toList = [45] from rfl]
  obtain ⟨d, hd⟩ : ∃ d : ByteArray, d = ⟨(Lib.trimPrefix s.data.toList [45]).toArray⟩ := ⟨_, rfl⟩
  rw [← hd]
  have hdl : Hid (d.data.toList = Lib.trimPrefix s.data.toList [45]) := by rw [hd]; rfl
  have hdz : d.size ≤ s.size := by rw [hd, size_of, Lib.size_eq]; exact trimPrefix_le _ _
  clear hd
  obtain ⟨neg, hneg⟩ : ∃ b : Bool, b = Lib.hasPrefix s.data.toList [45] := ⟨_, rfl⟩
  rw [← hneg]
  have HNEG := hide hneg
  clear hneg
  go_wp2_with fail
  refine (Tryz.strings_Cut d ⟨#[47]⟩ m _ (by omega) HML.out).mono ?_
  rintro e w2 ⟨rfl, q2, rfl⟩
  rw [show (⟨#[47]⟩ : ByteArray).data.toList = [47] from rfl]
  obtain ⟨up, hup⟩ : ∃ u : ByteArray, u = ⟨(Lib.cut d.data.toList [47]).1.toArray⟩ := ⟨_, rfl⟩
  obtain ⟨dn, hdn⟩ : ∃ u : ByteArray, u = ⟨(Lib.cut d.data.toList [47]).2.1.toArray⟩ := ⟨_, rfl⟩
  obtain ⟨bar, hbar⟩ : ∃ b : Bool, b = (Lib.cut d.data.toList [47]).2.2 := ⟨_, rfl⟩
  rw [← hup, ← hdn, ← hbar]
  have hul : Hid (up.data.toList = (Lib.cut d.data.toList [47]).1) := by rw [hup]; rfl
  have hdl2 : Hid (dn.data.toList = (Lib.cut d.data.toList [47]).2.1) := by rw [hdn]; rfl
  have huz : up.size ≤ s.size := by
    have := (cut_le d.data.toList [47]).1
    rw [hup, size_of]; rw [← Lib.size_eq] at this; omega
  have hdz2 : dn.size ≤ s.size := by
    have := (cut_le d.data.toList [47]).2
    rw [hdn, size_of]; rw [← Lib.size_eq] at this; omega
  have HBAR := hide hbar
  clear hup hdn hbar
  have HSPEC : Hid (∀ x : ByteArray, x.data.toList = (if bar then dn.data.toList else [49]) → ofQ s.data.toList = if allD up.data.toList && allD x.data.toList then lowQ neg (decL up.data.toList) (decL x.data.toList) else (false, 0, 1)) := by
    intro x hx
    have e : downOf (Lib.trimPrefix s.data.toList [45]) = x.data.toList := by
      unfold downOf
      rw [hx, ← hdl.out, HBAR.out, hdl2.out]
    unfold ofQ
    rw [e, ← hdl.out, ← hul.out, ← HNEG.out]
  have G2 : Hid (w.grownBy ((w.alloc (Obj.cells #[Value.bool false, Value.slice none 0 0, Value.slice none 0 0] 45)).drewN q2) none) := gr_drewN (gr_alloc (gr_refl _ _) _) _
  by_cases hbr : bar = true
  · subst hbr
    have HS := hide (HSPEC.out dn (by simp))
    have hxz : dn.size ≤ s.size + 1 := by omega
    by_cases ha : allD up.data.toList = true
    · have HA := hide ha
      clear ha
      by_cases hb : allD (dn).data.toList = true
      · have HB := hide hb
        clear hb
        go_wp2_with (first
          | (go_at_call_of 58 (Value.string up); refine (isDigits_at up _ (by omega)).mono ?_; rintro e w3 ⟨rfl, rfl⟩; rw [HA.out])
          | (go_at_call_of 58 (Value.string dn); refine (isDigits_at dn _ (by omega)).mono ?_; rintro e w3 ⟨rfl, rfl⟩; rw [HB.out]))
        refine (readNat_at up _ (by omega) (allD_all HA.out)).mono ?_
        rintro e w3 ⟨uv, rfl, n1, n2, n3⟩
        have N1 := hide n1
        have N2 := hide n2
        have N3 := hide n3
        obtain ⟨uo, ul, uc, rfl, _, _, _⟩ := n1.shape
        clear n1 n2 n3
        go_wp2_with fail
        refine (readNat_at (dn) _ (by omega) (allD_all HB.out)).mono ?_
        rintro e w4 ⟨dv, rfl, m1, m2, m3⟩
        have M1 := hide m1
        have M2 := hide m2
        have M3 := hide m3
        obtain ⟨do_, dl, dc, rfl, _, _, _⟩ := m1.shape
        clear m1 m2 m3
        go_wp2_with fail
        refine (lowest_at neg _ _ _ _ (s.size + 1) _ ((N1.out.keep0 M2.out).mono (by omega)) (M1.out.mono hxz) (by omega)).mono ?_
        intro e w5 hL
        obtain ⟨v, rfl, f1, f2⟩ := hL
        have K5 := hide (gr_none (gr_d q2) (gr_none N2.out (gr_none M2.out f2)))
        have G5 := hide (gr_none G2.out (gr_none N2.out (gr_none M2.out f2)))
        have NW := hide (noWords_res K5.out)
        obtain ⟨uo5, ul5, uc5, do5, dl5, dc5, ev⟩ := f1.shape
        have F1 := hide f1
        obtain ⟨c0, c1, c2, cf⟩ := res_cells K5.out
        have cf0 := cf 0
        have cf1 := cf 1
        have cf2 := cf 2
        subst ev
        have HS2 := HS.out
        rw [HA.out, HB.out] at HS2
        simp only [Bool.and_self, if_true] at HS2
        have HS3 := hide HS2
        obtain ⟨fneg, hfn⟩ : ∃ b : Bool, b = (lowQ neg (decL up.data.toList) (decL (dn).data.toList)).1 := ⟨_, rfl⟩
        rw [← hfn]
        have HFN := hide hfn
        clear f1 f2 cf HS HS2 hfn
        go_wp2
        refine bodyPost_ret (v := .agg #[.bool fneg, .slice uo5 ul5 uc5, .slice do5 dl5 dc5]) (by simp [results, Tryz.results17, go_sem, c0, c1, c2]) rfl ?_
        refine ⟨_, rfl, ?_, gr_in G5.out gr_three (Nat.le_refl _)⟩
        rw [HS3.out]
        have := F1.out.other NW.out (gr_three (a := .bool fneg) (b := .slice uo5 ul5 uc5) (c := .slice do5 dl5 dc5))
        rw [← HFN.out] at this ⊢
        exact this
      · have HB : Hid (allD (dn).data.toList = false) := hide (by simpa using hb)
        clear hb
        have HS2 := HS.out
        rw [HA.out, HB.out] at HS2
        simp at HS2
        have HS3 := hide HS2
        clear HS2 HS
        go_wp2_with (first
          | (go_at_call_of 58 (Value.string up); refine (isDigits_at up _ (by omega)).mono ?_; rintro e w3 ⟨rfl, rfl⟩; rw [HA.out])
          | (go_at_call_of 58 (Value.string dn); refine (isDigits_at dn _ (by omega)).mono ?_; rintro e w3 ⟨rfl, rfl⟩; rw [HB.out]))
        refine bodyPost_ret (v := .agg #[.bool false, .slice none 0 0, .slice none 0 0]) (by simp [results, Tryz.results17, go_sem]) rfl ?_
        exact of_none HS3.out (gr_in G2.out gr_three (Nat.le_refl _))
    · have HA : Hid (allD up.data.toList = false) := hide (by simpa using ha)
      clear ha
      have HS2 := HS.out
      rw [HA.out] at HS2
      simp at HS2
      have HS3 := hide HS2
      clear HS2 HS
      go_wp2_with (first
        | (go_at_call_of 58 (Value.string up); refine (isDigits_at up _ (by omega)).mono ?_; rintro e w3 ⟨rfl, rfl⟩; rw [HA.out]))
      refine bodyPost_ret (v := .agg #[.bool false, .slice none 0 0, .slice none 0 0]) (by simp [results, Tryz.results17, go_sem]) rfl ?_
      exact of_none HS3.out (gr_in G2.out gr_three (Nat.le_refl _))
  · obtain rfl : bar = false := by simpa using hbr
    clear hbr
    have HS := hide (HSPEC.out (⟨#[49]⟩ : ByteArray) (by rfl))
    have hxz : (⟨#[49]⟩ : ByteArray).size ≤ s.size + 1 := by have : (⟨#[49]⟩ : ByteArray).size = 1 := rfl; omega
    by_cases ha : allD up.data.toList = true
    · have HA := hide ha
      clear ha
      by_cases hb : allD ((⟨#[49]⟩ : ByteArray)).data.toList = true
      · have HB := hide hb
        clear hb
        go_wp2_with (first
          | (go_at_call_of 58 (Value.string up); refine (isDigits_at up _ (by omega)).mono ?_; rintro e w3 ⟨rfl, rfl⟩; rw [HA.out])
          | (go_at_call_of 58 (Value.string (⟨#[49]⟩ : ByteArray)); refine (isDigits_at (⟨#[49]⟩ : ByteArray) _ (by omega)).mono ?_; rintro e w3 ⟨rfl, rfl⟩; rw [HB.out]))
        refine (readNat_at up _ (by omega) (allD_all HA.out)).mono ?_
        rintro e w3 ⟨uv, rfl, n1, n2, n3⟩
        have N1 := hide n1
        have N2 := hide n2
        have N3 := hide n3
        obtain ⟨uo, ul, uc, rfl, _, _, _⟩ := n1.shape
        clear n1 n2 n3
        go_wp2_with fail
        refine (readNat_at ((⟨#[49]⟩ : ByteArray)) _ (by omega) (allD_all HB.out)).mono ?_
        rintro e w4 ⟨dv, rfl, m1, m2, m3⟩
        have M1 := hide m1
        have M2 := hide m2
        have M3 := hide m3
        obtain ⟨do_, dl, dc, rfl, _, _, _⟩ := m1.shape
        clear m1 m2 m3
        go_wp2_with fail
        refine (lowest_at neg _ _ _ _ (s.size + 1) _ ((N1.out.keep0 M2.out).mono (by omega)) (M1.out.mono hxz) (by omega)).mono ?_
        intro e w5 hL
        obtain ⟨v, rfl, f1, f2⟩ := hL
        have K5 := hide (gr_none (gr_d q2) (gr_none N2.out (gr_none M2.out f2)))
        have G5 := hide (gr_none G2.out (gr_none N2.out (gr_none M2.out f2)))
        have NW := hide (noWords_res K5.out)
        obtain ⟨uo5, ul5, uc5, do5, dl5, dc5, ev⟩ := f1.shape
        have F1 := hide f1
        obtain ⟨c0, c1, c2, cf⟩ := res_cells K5.out
        have cf0 := cf 0
        have cf1 := cf 1
        have cf2 := cf 2
        subst ev
        have HS2 := HS.out
        rw [HA.out, HB.out] at HS2
        simp only [Bool.and_self, if_true] at HS2
        have HS3 := hide HS2
        obtain ⟨fneg, hfn⟩ : ∃ b : Bool, b = (lowQ neg (decL up.data.toList) (decL ((⟨#[49]⟩ : ByteArray)).data.toList)).1 := ⟨_, rfl⟩
        rw [← hfn]
        have HFN := hide hfn
        clear f1 f2 cf HS HS2 hfn
        go_wp2
        refine bodyPost_ret (v := .agg #[.bool fneg, .slice uo5 ul5 uc5, .slice do5 dl5 dc5]) (by simp [results, Tryz.results17, go_sem, c0, c1, c2]) rfl ?_
        refine ⟨_, rfl, ?_, gr_in G5.out gr_three (Nat.le_refl _)⟩
        rw [HS3.out]
        have := F1.out.other NW.out (gr_three (a := .bool fneg) (b := .slice uo5 ul5 uc5) (c := .slice do5 dl5 dc5))
        rw [← HFN.out] at this ⊢
        exact this
      · have HB : Hid (allD ((⟨#[49]⟩ : ByteArray)).data.toList = false) := hide (by simpa using hb)
        clear hb
        have HS2 := HS.out
        rw [HA.out, HB.out] at HS2
        simp at HS2
        have HS3 := hide HS2
        clear HS2 HS
        go_wp2_with (first
          | (go_at_call_of 58 (Value.string up); refine (isDigits_at up _ (by omega)).mono ?_; rintro e w3 ⟨rfl, rfl⟩; rw [HA.out])
          | (go_at_call_of 58 (Value.string (⟨#[49]⟩ : ByteArray)); refine (isDigits_at (⟨#[49]⟩ : ByteArray) _ (by omega)).mono ?_; rintro e w3 ⟨rfl, rfl⟩; rw [HB.out]))
        refine bodyPost_ret (v := .agg #[.bool false, .slice none 0 0, .slice none 0 0]) (by simp [results, Tryz.results17, go_sem]) rfl ?_
        exact of_none HS3.out (gr_in G2.out gr_three (Nat.le_refl _))
    · have HA : Hid (allD up.data.toList = false) := hide (by simpa using ha)
      clear ha
      have HS2 := HS.out
      rw [HA.out] at HS2
      simp at HS2
      have HS3 := hide HS2
      clear HS2 HS
      go_wp2_with (first
        | (go_at_call_of 58 (Value.string up); refine (isDigits_at up _ (by omega)).mono ?_; rintro e w3 ⟨rfl, rfl⟩; rw [HA.out]))
      refine bodyPost_ret (v := .agg #[.bool false, .slice none 0 0, .slice none 0 0]) (by simp [results, Tryz.results17, go_sem]) rfl ?_
      exact of_none HS3.out (gr_in G2.out gr_three (Nat.le_refl _))
end Go.Proofs.YtgdiepfknfnmjaaGreatDoor

namespace Go.Proofs.YtgdiepfknfnmjaaGreatDoor
open Go.RowKit
set_option linter.unusedVariables false
set_option linter.unusedSimpArgs false

/-- The block of a fraction that a call boxed. -/
theorem box_three {w W : World} {u v x : Value} (h : (w.alloc (Obj.cells #[u, v, x] 45)).grownBy W none) : W.cell? ⟨w.heap.size, 0, none⟩ = some u ∧ W.cell? ⟨w.heap.size, 1, none⟩ = some v ∧ W.cell? ⟨w.heap.size, 2, none⟩ = some x := by
  have e : W.heap[w.heap.size]? = some (Obj.cells #[u, v, x] 45 (0, 0)) := by
    rw [h.block w.heap.size (by simp) (by simp)]
    exact heap_alloc_new w _
  refine ⟨?_, ?_, ?_⟩ <;> simp [World.cell?, e]

theorem num_one (w : World) : Num (w.alloc (Obj.cells #[Value.int IntKind.u32 1] 96)) (.slice (some ⟨w.heap.size, 0, none⟩) 1 1) 1 1 := by
  have ha : Arr (w.alloc (Obj.cells #[Value.int IntKind.u32 1] 96)) w.heap.size [1] := by
    unfold Arr
    show (w.heap.push _)[w.heap.size]? = _
    rw [Array.getElem?_push_size]
    rfl
  exact ⟨[1], ha.ws (Sm.cons (by decide) Sm.nil) (by unfold maxLen; simp), by simp [Tr, trimL], by simp [val], by simp⟩

/-- What stands below the bar. -/
def NumE (w : World) (n L : Nat) (e : Ending) (w' : World) : Prop := ∃ v, e = .returned v ∧ Num w' v n L ∧ w.grownBy w' none

set_option maxHeartbeats 2000000 in
theorem bar_at (x : Value) (neg : Bool) (n d L : Nat) (w : World) (hx : FV w x neg n d L) :
    Calls Tryz.prog 65 #[x] w fun e w' => NumE w d (L + 1) e w' := by
  obtain ⟨up, down, rfl, h1, h2, h3, h4⟩ := hx
  obtain ⟨uo, ul, uc, rfl, _⟩ := h1.shape
  rcases h2 with ⟨rfl, rfl⟩ | ⟨h2, hd⟩
  · clear h1 h3 h4
    go_enter Tryz.func65, Tryz.ntmps65
    go_wp2
    go_ret
    have h1 := num_one (w.alloc (Obj.cells #[.bool neg, .slice uo ul uc, .slice none 0 0] 45))
    have e1 : (w.alloc (Obj.cells #[.bool neg, .slice uo ul uc, .slice none 0 0] 45)).heap.size = w.heap.size + 1 := by simp
    rw [e1] at h1
    exact ⟨_, rfl, Num.mono (L := 1) (L' := L + 1) h1 (Nat.le_add_left 1 L), gr_alloc (gr_alloc (gr_refl _ _) _) _⟩
  · obtain ⟨do_, dl, dc, rfl, d1, d2, d3⟩ := h2.shape
    unfold maxLen at d3
    have hb : (((dl : Nat) : Int) == 0) = false := beq_eq_false_iff_ne.2 (by
      intro e
      have : dl = 0 := by omega
      have := d1.1 this
      omega)
    have H2 := hide h2
    clear h1 h2 h3 h4 d1
    go_enter Tryz.func65, Tryz.ntmps65
    go_wp2
    go_ret
    exact ⟨_, rfl, (H2.out.keep0 (gr_alloc (gr_refl _ _) _)).mono (by omega), gr_alloc (gr_refl _ _) _⟩

/-- Whether there is nothing below the bar. -/
theorem isWhole_yes (uo : Option Addr) (ul uc : Nat) (b : Bool) (w : World) :
    Calls Tryz.prog 61 #[.agg #[.bool b, .slice uo ul uc, .slice none 0 0]] w fun e w' => e = .returned (.bool true) ∧ w.grownBy w' none := by
  go_enter Tryz.func61, Tryz.ntmps61
  go_wp2
  go_ret
  exact ⟨rfl, gr_alloc (gr_refl _ _) _⟩

theorem isWhole_no (uo do_ : Option Addr) (ul uc dl dc : Nat) (b : Bool) (w : World) (h : 0 < dl) (h2 : dl ≤ dc) (h3 : dc ≤ maxLen) :
    Calls Tryz.prog 61 #[.agg #[.bool b, .slice uo ul uc, .slice do_ dl dc]] w fun e w' => e = .returned (.bool false) ∧ w.grownBy w' none := by
  unfold maxLen at h3
  have hb : (((dl : Nat) : Int) == 0) = false := beq_eq_false_iff_ne.2 (by omega)
  go_enter Tryz.func61, Tryz.ntmps61
  go_wp2
  go_ret
  exact ⟨rfl, gr_alloc (gr_refl _ _) _⟩

theorem gcd_num (x y : Value) (n m L : Nat) (w : World) (hx : Num w x n L) (hy : Num w y m L) (h0 : 0 < n ∨ 0 < m) (hl : L ≤ 800000000) :
    Calls Tryz.prog 64 #[x, y] w fun e w' => GcdE w (Nat.gcd n m) L e w' := by
  obtain ⟨xs, h1, h2, h3, h4⟩ := hx
  obtain ⟨ys, k1, k2, k3, k4⟩ := hy
  rw [← h3, ← k3]
  exact commonDivisor_ws x y xs ys w h1 k1 h2 k2 (by omega) L h4 k4 hl

theorem lowQ_scale (b : Bool) (k A B : Nat) (hk : 0 < k) : lowQ b (k * A) (k * B) = lowQ b A B := by
  unfold lowQ
  rw [Nat.gcd_mul_left]
  by_cases h : A = 0 ∨ B = 0
  · have h' : k * A = 0 ∨ k * B = 0 := by
      rcases h with h | h
      · exact .inl (by rw [h, Nat.mul_zero])
      · exact .inr (by rw [h, Nat.mul_zero])
    rw [if_pos h, if_pos h']
  · have h' : ¬ (k * A = 0 ∨ k * B = 0) := by
      intro h'
      rcases h' with h' | h' <;> rcases Nat.mul_eq_zero.1 h' with e | e
      · omega
      · exact h (.inl e)
      · omega
      · exact h (.inr e)
    rw [if_neg h, if_neg h', Nat.mul_div_mul_left _ _ hk, Nat.mul_div_mul_left _ _ hk]

theorem lowQ_barred (b : Bool) (n m : Nat) (h0 : 0 < n) (h1 : 0 < m) (h : Nat.gcd n m = 1) : lowQ b n m = (b, n, m) := by
  unfold lowQ
  rw [if_neg (by omega), h, Nat.div_one, Nat.div_one]

theorem cop_div {a b k l : Nat} (h : Nat.gcd a b = 1) (hk : k ∣ a) (hl : l ∣ b) : Nat.Coprime (a / k) (b / l) :=
  Nat.Coprime.coprime_dvd_left (Nat.div_dvd_of_dvd hk) (Nat.Coprime.coprime_dvd_right (Nat.div_dvd_of_dvd hl) h)

theorem cross_cop {n1 d1 n2 d2 : Nat} (h1 : Nat.gcd n1 d1 = 1) (h2 : Nat.gcd n2 d2 = 1) (p1 : 0 < d1) (p2 : 0 < d2) :
    Nat.gcd (n1 / Nat.gcd n1 d2 * (n2 / Nat.gcd n2 d1)) (d1 / Nat.gcd n2 d1 * (d2 / Nat.gcd n1 d2)) = 1 := by
  have g1 : 0 < Nat.gcd n1 d2 := Nat.gcd_pos_of_pos_right _ p2
  have g2 : 0 < Nat.gcd n2 d1 := Nat.gcd_pos_of_pos_right _ p1
  have a1 := cop_div h1 (Nat.gcd_dvd_left n1 d2) (Nat.gcd_dvd_right n2 d1)
  have a2 : Nat.Coprime (n1 / Nat.gcd n1 d2) (d2 / Nat.gcd n1 d2) := Nat.coprime_div_gcd_div_gcd g1
  have a3 : Nat.Coprime (n2 / Nat.gcd n2 d1) (d1 / Nat.gcd n2 d1) := Nat.coprime_div_gcd_div_gcd g2
  have a4 := cop_div h2 (Nat.gcd_dvd_left n2 d1) (Nat.gcd_dvd_right n1 d2)
  exact Nat.Coprime.mul_left (Nat.Coprime.mul_right a1 a2) (Nat.Coprime.mul_right a3 a4)

theorem cross_low (b : Bool) {n1 d1 n2 d2 : Nat} (p1 : 0 < d1) (p2 : 0 < d2) :
    lowQ b (n1 / Nat.gcd n1 d2 * (n2 / Nat.gcd n2 d1)) (d1 / Nat.gcd n2 d1 * (d2 / Nat.gcd n1 d2)) = lowQ b (n1 * n2) (d1 * d2) := by
  have g1 : 0 < Nat.gcd n1 d2 := Nat.gcd_pos_of_pos_right _ p2
  have g2 : 0 < Nat.gcd n2 d1 := Nat.gcd_pos_of_pos_right _ p1
  rw [← lowQ_scale b (Nat.gcd n1 d2 * Nat.gcd n2 d1) _ _ (Nat.mul_pos g1 g2)]
  have e1 := Nat.mul_div_cancel' (Nat.gcd_dvd_left n1 d2)
  have e2 := Nat.mul_div_cancel' (Nat.gcd_dvd_left n2 d1)
  have e3 := Nat.mul_div_cancel' (Nat.gcd_dvd_right n1 d2)
  have e4 := Nat.mul_div_cancel' (Nat.gcd_dvd_right n2 d1)
  congr 1
  · rw [Nat.mul_mul_mul_comm, e1, e2]
  · rw [Nat.mul_comm (d1 / _), Nat.mul_mul_mul_comm, e3, e4, Nat.mul_comm]

set_option maxHeartbeats 2000000 in
theorem barred_at (below : Bool) (u d : Value) (n m L : Nat) (w : World) (hu : Num w u n L) (hd : Num w d m L) (hm : 0 < m) (hc : n = 0 ∨ Nat.gcd n m = 1) :
    Calls Tryz.prog 62 #[.bool below, u, d] w fun e w' => LowE w (lowQ below n m).1 (lowQ below n m).2.1 (lowQ below n m).2.2 L e w' := by
  obtain ⟨uo, ul, uc, rfl, u1, u2, u3⟩ := hu.shape
  obtain ⟨do_, dl, dc, rfl, d1, d2, d3⟩ := hd.shape
  unfold maxLen at u3 d3
  have g1 : w.grownBy (w.alloc (Obj.cells #[Value.bool false, Value.slice none 0 0, Value.slice none 0 0] 45)) none := gr_alloc (gr_refl w none) _
  have G1 := hide g1
  clear g1
  by_cases h0 : n = 0
  · subst h0
    obtain rfl : ul = 0 := u1.2 rfl
    have e : lowQ below 0 m = (false, 0, 1) := by unfold lowQ; rw [if_pos (.inl rfl)]
    rw [e]
    have hend : LowE w false 0 1 L (.returned (.agg #[.bool false, .slice none 0 0, .slice none 0 0])) (w.alloc (Obj.cells #[Value.bool false, Value.slice none 0 0, Value.slice none 0 0] 45)) :=
      ⟨_, rfl, ⟨_, _, rfl, ⟨[], Ws.nil _, rfl, rfl, by simp⟩, .inl ⟨rfl, rfl⟩, rfl, by simp⟩, gr_alloc (gr_refl _ _) _⟩
    have HEND := hide hend
    clear hend hu hd u1 d1 hc e
    go_enter Tryz.func62, Tryz.ntmps62
    go_wp2
    exact bodyPost_ret (v := .agg #[.bool false, .slice none 0 0, .slice none 0 0]) (by simp [results, Tryz.results62, go_sem]) rfl HEND.out
  · have hul : 0 < ul := by
      rcases Nat.eq_zero_or_pos ul with h | h
      · exact absurd (u1.1 h) h0
      · exact h
    have hb1 : (((ul : Nat) : Int) == 0) = false := beq_eq_false_iff_ne.2 (by omega)
    have hg : Nat.gcd n m = 1 := by
      rcases hc with h | h
      · exact absurd h h0
      · exact h
    rw [lowQ_barred below n m (by omega) hm hg]
    have HU := hide hu
    have HD := hide hd
    have HG := hide hg
    have HN : Hid (0 < n) := by show 0 < n; omega
    clear hu hd u1 d1 hc hg h0
    by_cases h1 : m = 1
    · have HH1 := hide h1
      clear h1
      go_enter Tryz.func62, Tryz.ntmps62
      go_wp2_with fail
      refine (isOne_yes _ L _ (by have := HD.out.keep0 G1.out; rw [HH1.out] at this; exact this)).mono ?_
      rintro e w2 ⟨rfl, rfl⟩
      go_wp2
      refine bodyPost_ret (v := .agg #[.bool below, .slice uo ul uc, .slice none 0 0]) (by simp [results, Tryz.results62, go_sem]) rfl ?_
      exact ⟨_, rfl, ⟨_, _, rfl, HU.out.keep0 (gr_alloc (gr_refl _ _) _), .inl ⟨rfl, HH1.out⟩, HG.out, fun _ => HN.out⟩, gr_alloc (gr_refl _ _) _⟩
    · have HH1 := hide h1
      have HM1 : Hid (1 < m) := by show 1 < m; omega
      clear h1
      go_enter Tryz.func62, Tryz.ntmps62
      go_wp2_with fail
      refine (isOne_no _ m L _ (HD.out.keep0 G1.out) HH1.out).mono ?_
      rintro e w2 ⟨rfl, rfl⟩
      go_wp2
      refine bodyPost_ret (v := .agg #[.bool below, .slice uo ul uc, .slice do_ dl dc]) (by simp [results, Tryz.results62, go_sem]) rfl ?_
      exact ⟨_, rfl, ⟨_, _, rfl, HU.out.keep0 (gr_alloc (gr_refl _ _) _), .inr ⟨HD.out.keep0 (gr_alloc (gr_refl _ _) _), HM1.out⟩, HG.out, fun _ => HN.out⟩, gr_alloc (gr_refl _ _) _⟩
end Go.Proofs.YtgdiepfknfnmjaaGreatDoor
