/- frac: commonDivisor, isOne, lowest. -/
import Derived.Test.YtnhibcjhgeddlaaDoorFDiv3
import Derived.Deep.LoopGhost
namespace Go.Proofs.YtnhibcjhgeddlaaDoor
open Go.RowKit
set_option linter.unusedVariables false

/-- commonDivisor's loop. -/
def GcdR (w : World) (G L : Nat) (k : Nat) (av bv : Value) (wr : World) : Prop := ∃ xs ys : List Nat, Ws wr av xs ∧ Ws wr bv ys ∧ Tr xs ∧ Tr ys ∧ 0 < val xs ∧ xs.length ≤ L ∧ ys.length ≤ L ∧ Nat.gcd (val xs) (val ys) = G ∧ w.grownBy wr none ∧ val ys = k

set_option maxHeartbeats 1000000 in
set_option maxRecDepth 10000 in
theorem commonDivisor_ws (va vb : Value) (xs0 ys0 : List Nat) (w : World) (ha : Ws w va xs0) (hb : Ws w vb ys0) (tx0 : Tr xs0) (ty0 : Tr ys0) (hx0 : 0 < val xs0) (L : Nat) (hlx : xs0.length ≤ L) (hly : ys0.length ≤ L) (hl : L ≤ 800000000) :
    Calls Tryd.prog 37 #[va, vb] w fun e w' => ∃ g, e = .returned g ∧ Num w' g (Nat.gcd (val xs0) (val ys0)) L ∧ w.grownBy w' none := by
  obtain ⟨ao, ca, ea, hca, hca', Ha⟩ := ha.open
  obtain ⟨bo, cb, eb, hcb, hcb', Hb⟩ := hb.open
  obtain ⟨G, hG⟩ : ∃ G, G = Nat.gcd (val xs0) (val ys0) := ⟨_, rfl⟩
  rw [← hG]
  have H0 : Hid (GcdR w G L (val ys0) (.slice ao xs0.length ca) (.slice bo ys0.length cb) w) :=
    ⟨xs0, ys0, by rw [← ea]; exact ha, by rw [← eb]; exact hb, tx0, ty0, hx0, hlx, hly, hG.symm, gr_refl _ _, rfl⟩
  subst ea eb
  clear Ha Hb ha hb tx0 ty0 hx0 hlx hly hG hca hca' hcb hcb'
  go_enter Tryd.func37, Tryd.ntmps37
  go_wp2
  go_loopg [0, 1] (val ys0) (fun k av bv wr => Hid (GcdR w G L k av bv wr))
  case atStart => exact H0.out
  case round =>
    obtain ⟨xs, ys, h1, h2, h3, h4, h5, h6, h7, h8, h9, h10⟩ := hrel.out
    obtain ⟨ao', ca', rfl, hca, hca', _⟩ := h1.open
    obtain ⟨bo', cb', rfl, hcb, hcb', _⟩ := h2.open
    unfold maxLen at hca' hcb'
    have H1 := hide h1
    have H2 := hide h2
    have H3 := hide h3
    have H4 := hide h4
    have H5 := hide h5
    have H8 := hide h8
    have H9 := hide h9
    have H10 := hide h10
    clear h1 h2 h3 h4 h5 h8 h9 h10 hrel H0
    by_cases hy : 0 < ys.length
    · have hq0 : 0 < val ys := by
        have := tr_ge H4.out (by intro e; rw [e] at hy; simp at hy)
        have p3 : 0 < 4294967296 ^ (ys.length - 1) := Nat.pow_pos (by decide)
        omega
      have HQ0 := hide hq0
      clear hq0
      go_wp2_with fail
      refine (divide_num _ _ (val xs) (val ys) L L _ ⟨xs, H1.out, H3.out, rfl, h6⟩ ⟨ys, H2.out, H4.out, rfl, h7⟩ HQ0.out (by omega)).mono ?_
      intro e w2 hD
      obtain ⟨q, r, rfl, k1, ⟨rs, r1, r2, r3, r4⟩, k3, k4, k5⟩ := hD
      obtain ⟨ro', cr', rfl, hcr, hcr', _⟩ := r1.open
      have R1 := hide r1
      have R2 := hide r2
      have R3 := hide r3
      have K3 := hide k3
      clear k1 r1 r2 r3 k3 k4 k5
      go_wp2
      have hm := Nat.mod_lt (val xs) HQ0.out
      go_roundg (val rs)
      case measure => rw [R3.out, ← H10.out]; exact hm
      case rel => exact ⟨ys, rs, H2.out.keep0 K3.out, R1.out, H4.out, R2.out, HQ0.out, h7, r4, by rw [R3.out, Nat.gcd_comm, ← Nat.gcd_rec, Nat.gcd_comm]; exact H8.out, gr_none H9.out K3.out, rfl⟩
    · have e0 : ys = [] := List.eq_nil_of_length_eq_zero (by omega)
      have E0 := hide e0
      clear e0
      go_wp2
      go_ret
      refine ⟨_, rfl, ⟨xs, H1.out, H3.out, ?_, by omega⟩, H9.out⟩
      have := H8.out
      rw [E0.out] at this
      simp only [val, Nat.gcd_zero_right] at this
      exact this

theorem one_iff {xs : List Nat} (hs : Sm xs) (ht : Tr xs) : (xs == [1]) = decide (val xs = 1) := by
  rw [Bool.eq_iff_iff]
  simp only [beq_iff_eq, decide_eq_true_eq]
  constructor
  · intro e; rw [e]; simp [val]
  · intro e
    refine val_inj hs (Sm.cons (by decide) Sm.nil) ht (by simp [Tr, trimL]) ?_
    rw [e]; simp [val]

theorem isOne_yes (v : Value) (L : Nat) (w : World) (h : Num w v 1 L) : Calls Tryd.prog 38 #[v] w fun e w' => e = .returned (.bool true) ∧ w' = w := by
  obtain ⟨xs, h1, h2, h3, h4⟩ := h
  refine (fisOne_ws v xs w h1).mono ?_
  rintro e w' ⟨rfl, rfl⟩
  rw [one_iff h1.sm h2, h3]
  exact ⟨rfl, rfl⟩

theorem isOne_no (v : Value) (n L : Nat) (w : World) (h : Num w v n L) (hn : n ≠ 1) : Calls Tryd.prog 38 #[v] w fun e w' => e = .returned (.bool false) ∧ w' = w := by
  obtain ⟨xs, h1, h2, h3, h4⟩ := h
  refine (fisOne_ws v xs w h1).mono ?_
  rintro e w' ⟨rfl, rfl⟩
  rw [one_iff h1.sm h2, h3]
  exact ⟨by simp [hn], rfl⟩

/-- v is the fraction n over d in lowest terms, below 0 or not. -/
def FV (w : World) (v : Value) (neg : Bool) (n d L : Nat) : Prop :=
  ∃ up down, v = .agg #[.bool neg, up, down] ∧ Num w up n L ∧ ((down = .slice none 0 0 ∧ d = 1) ∨ (Num w down d L ∧ 1 < d)) ∧ Nat.gcd n d = 1 ∧ (neg = true → 0 < n)

theorem FV.keep0 {w w' : World} {v : Value} {neg : Bool} {n d L : Nat} (h : FV w v neg n d L) (hg : w.grownBy w' none) : FV w' v neg n d L := by
  obtain ⟨up, down, e, h1, h2, h3, h4⟩ := h
  refine ⟨up, down, e, h1.keep0 hg, ?_, h3, h4⟩
  rcases h2 with h2 | ⟨h2, h5⟩
  · exact .inl h2
  · exact .inr ⟨h2.keep0 hg, h5⟩

/-- What lowest answers. -/
def LowE (w : World) (neg : Bool) (n d L : Nat) (e : Ending) (w' : World) : Prop := ∃ v, e = .returned v ∧ FV w' v neg n d L ∧ w.grownBy w' none

theorem Num.shape {w : World} {v : Value} {n L : Nat} (h : Num w v n L) : ∃ o l c, v = .slice o l c ∧ (l = 0 ↔ n = 0) ∧ l ≤ c ∧ c ≤ maxLen := by
  obtain ⟨xs, h1, h2, h3, h4⟩ := h
  obtain ⟨o, c, rfl, h5, h6, _⟩ := h1.open
  refine ⟨o, _, c, rfl, ?_, h5, h6⟩
  constructor
  · intro e
    have : xs = [] := List.eq_nil_of_length_eq_zero e
    rw [this] at h3
    simp [val] at h3
    omega
  · intro e
    rcases Nat.eq_zero_or_pos xs.length with h | h
    · exact h
    · have := tr_ge h2 (by intro e; rw [e] at h; simp at h)
      have p3 : 0 < 4294967296 ^ (xs.length - 1) := Nat.pow_pos (by decide)
      omega

set_option maxHeartbeats 1000000 in
set_option maxRecDepth 10000 in
theorem lowest_zero (below : Bool) (u d : Value) (n m L : Nat) (w : World) (hu : Num w u n L) (hd : Num w d m L) (h0 : n = 0 ∨ m = 0) :
    Calls Tryd.prog 31 #[.bool below, u, d] w fun e w' => LowE w false 0 1 L e w' := by
  obtain ⟨uo, ul, uc, rfl, u1, u2, u3⟩ := hu.shape
  obtain ⟨do_, dl, dc, rfl, d1, d2, d3⟩ := hd.shape
  unfold maxLen at u3 d3
  have hz : ul = 0 ∨ dl = 0 := by
    rcases h0 with h | h
    · exact .inl (u1.2 h)
    · exact .inr (d1.2 h)
  clear u1 d1 h0 hu hd
  have hend : LowE w false 0 1 L (.returned (.agg #[.bool false, .slice none 0 0, .slice none 0 0])) (w.alloc (Obj.cells #[Value.bool false, Value.slice none 0 0, Value.slice none 0 0] 64)) :=
    ⟨_, rfl, ⟨_, _, rfl, ⟨[], Ws.nil _, rfl, rfl, by simp⟩, .inl ⟨rfl, rfl⟩, rfl, by simp⟩, gr_alloc (gr_refl _ _) _⟩
  have HEND := hide hend
  clear hend
  by_cases hz1 : ul = 0
  · subst hz1
    clear hz
    go_enter Tryd.func31, Tryd.ntmps31
    go_wp2
    exact bodyPost_ret (v := .agg #[.bool false, .slice none 0 0, .slice none 0 0]) (by simp [results, Tryd.results31, go_sem]) rfl HEND.out
  · obtain rfl : dl = 0 := by omega
    have hb : (((ul : Nat) : Int) == 0) = false := beq_eq_false_iff_ne.2 (by omega)
    clear hz hz1
    go_enter Tryd.func31, Tryd.ntmps31
    go_wp2
    exact bodyPost_ret (v := .agg #[.bool false, .slice none 0 0, .slice none 0 0]) (by simp [results, Tryd.results31, go_sem]) rfl HEND.out

/-- v lies in another block than g. -/
def Off (g : Nat) (v : Value) : Prop := ∀ k, blockOf v = some k → k ≠ g

theorem Num.off {w : World} {v : Value} {n L : Nat} (h : Num w v n L) : Off w.heap.size v := by
  obtain ⟨xs, h1, _⟩ := h
  intro k hk
  have := h1.blk k hk
  omega

theorem Fresh.off {w : World} {v : Value} {g : Nat} (h : Fresh w v) (hg : g < w.heap.size) : Off g v := fun k hk => by
  have := h k hk
  omega

theorem Num.set {w : World} {v : Value} {n L g i : Nat} {x : Value} (h : Num w v n L) (ho : Off g v) : Num (w.setCell ⟨g, i, none⟩ x) v n L :=
  h.keep (row := some g) ⟨rfl, rfl, rfl, by simp, fun k _ hr => heap_setCell_other _ _ _ _ (fun e => hr (by rw [e]))⟩ (fun k e hk => by cases e; exact ho g hk rfl)

/-- The end of lowest: what is stored. -/
theorem lowest_end {w W : World} {g n d L : Nat} {below : Bool} {u v : Value} (hg : g = w.heap.size) (hw : w.grownBy W none) (hu : Num W u n L) (hv : (v = .slice none 0 0 ∧ d = 1) ∨ (Num W v d L ∧ 1 < d)) (ou : Off g u) (ov : Off g v) (hc : Nat.gcd n d = 1) (hn : 0 < n) :
    LowE w below n d L (.returned (.agg #[.bool below, u, v])) (((W.setCell ⟨g, 0, none⟩ (.bool below)).setCell ⟨g, 1, none⟩ u).setCell ⟨g, 2, none⟩ v) := by
  refine ⟨_, rfl, ⟨u, v, rfl, ((hu.set ou).set ou).set ou, ?_, hc, fun _ => hn⟩, ?_⟩
  · rcases hv with h | ⟨h, h1⟩
    · exact .inl h
    · exact .inr ⟨((h.set ov).set ov).set ov, h1⟩
  · subst hg
    exact gr_set (gr_set (gr_set hw _ _ (Nat.le_refl _)) _ _ (Nat.le_refl _)) _ _ (Nat.le_refl _)

/-- The cells of what is answered, in a world that has grown since. -/
theorem res_cells {w W : World} {b : Value} {u v : Value} (h : (w.alloc (Obj.cells #[b, u, v] 64)).grownBy W none) :
    W.cell? ⟨w.heap.size, 0, none⟩ = some b ∧ W.cell? ⟨w.heap.size, 1, none⟩ = some u ∧ W.cell? ⟨w.heap.size, 2, none⟩ = some v ∧ (∀ i, W.frozen? ⟨w.heap.size, i, none⟩ = false) := by
  have e : W.heap[w.heap.size]? = some (Obj.cells #[b, u, v] 64 (0, 0)) := by
    rw [h.block w.heap.size (by simp) (by simp)]
    exact heap_alloc_new w _
  refine ⟨?_, ?_, ?_, fun i => ?_⟩ <;> simp [World.cell?, World.frozen?, e]

set_option maxHeartbeats 2000000 in
set_option maxRecDepth 10000 in
theorem lowest_pos (below : Bool) (u d : Value) (n m L : Nat) (w : World) (hu : Num w u n L) (hd : Num w d m L) (hn : 0 < n) (hm : 0 < m) (hl : L ≤ 800000000) :
    Calls Tryd.prog 31 #[.bool below, u, d] w fun e w' => LowE w below (n / Nat.gcd n m) (m / Nat.gcd n m) L e w' := by
  obtain ⟨uo, ul, uc, rfl, u1, u2, u3⟩ := hu.shape
  obtain ⟨do_, dl, dc, rfl, d1, d2, d3⟩ := hd.shape
  unfold maxLen at u3 d3
  have hul : 0 < ul := by
    rcases Nat.eq_zero_or_pos ul with h | h
    · have := u1.1 h; omega
    · exact h
  have hdl : 0 < dl := by
    rcases Nat.eq_zero_or_pos dl with h | h
    · have := d1.1 h; omega
    · exact h
  have hb1 : (((ul : Nat) : Int) == 0) = false := beq_eq_false_iff_ne.2 (by omega)
  have hb2 : (((dl : Nat) : Int) == 0) = false := beq_eq_false_iff_ne.2 (by omega)
  have HU := hide hu
  have HD := hide hd
  obtain ⟨G, hG⟩ : ∃ G, G = Nat.gcd n m := ⟨_, rfl⟩
  have hG0 : 0 < G := by rw [hG]; exact Nat.gcd_pos_of_pos_left _ hn
  have hcop : Nat.gcd (n / G) (m / G) = 1 := by rw [hG, Nat.gcd_div (Nat.gcd_dvd_left n m) (Nat.gcd_dvd_right n m), Nat.div_self (Nat.gcd_pos_of_pos_left _ hn)]
  have hnG : 0 < n / G := by rw [hG]; exact Nat.div_pos (Nat.gcd_le_left _ hn) (Nat.gcd_pos_of_pos_left _ hn)
  have hmG : 0 < m / G := by rw [hG]; exact Nat.div_pos (Nat.gcd_le_right _ hm) (Nat.gcd_pos_of_pos_left _ hn)
  rw [← hG]
  have HG := hide hG
  have HCOP := hide hcop
  have HNG := hide hnG
  have HMG := hide hmG
  have ou := hide hu.off
  have od := hide hd.off
  clear hu hd u1 d1 hG hcop hnG hmG
  go_enter Tryd.func31, Tryd.ntmps31
  go_wp2_with fail
  obtain ⟨xs0, x1, x2, x3, x4⟩ := HU.out.keep0 (gr_alloc (gr_refl w none) (Obj.cells #[Value.bool false, Value.slice none 0 0, Value.slice none 0 0] 64))
  obtain ⟨ys0, y1, y2, y3, y4⟩ := HD.out.keep0 (gr_alloc (gr_refl w none) (Obj.cells #[Value.bool false, Value.slice none 0 0, Value.slice none 0 0] 64))
  refine (commonDivisor_ws _ _ xs0 ys0 _ x1 y1 x2 y2 (by omega) L x4 y4 (by omega)).mono ?_
  rintro e w1 ⟨g, rfl, k1, k2⟩
  rw [x3, y3, ← HG.out] at k1
  clear x1 x2 x3 x4 y1 y2 y3 y4
  have K1 := hide k1
  have K2 := hide k2
  clear k1 k2
  have G1 := hide (gr_none (gr_alloc (gr_refl w none) _) K2.out)
  obtain ⟨go, gl, gc, rfl, _, _, _⟩ := K1.out.shape
  have hgs : w.heap.size < w1.heap.size := by have := K2.out.size; simp at this; omega
  by_cases h1 : G = 1
  · have HH1 := hide h1
    clear h1
    go_wp2_with fail
    refine (isOne_yes _ L _ (by have := K1.out; rw [HH1.out] at this; exact this)).mono ?_
    rintro e w2 ⟨rfl, rfl⟩
    obtain ⟨c0, c1, c2, cf⟩ := res_cells K2.out
    have cf0 := cf 0
    have cf1 := cf 1
    have cf2 := cf 2
    clear cf
    by_cases h2 : m = 1
    · have HH2 := hide h2
      clear h2
      go_wp2_with fail
      refine (isOne_yes _ L _ (by have := HD.out.keep0 G1.out; rw [HH2.out] at this; exact this)).mono ?_
      rintro e w3 ⟨rfl, rfl⟩
      go_wp2
      refine bodyPost_ret (v := .agg #[.bool below, .slice uo ul uc, .slice none 0 0]) (by simp [results, Tryd.results31, go_sem, c0, c1, c2]) rfl ?_
      refine lowest_end rfl G1.out ?_ (.inl ⟨rfl, ?_⟩) ou.out (fun k hk => by simp [blockOf] at hk) HCOP.out HNG.out
      · rw [HH1.out, Nat.div_one]; exact HU.out.keep0 G1.out
      · rw [HH1.out, Nat.div_one]; exact HH2.out
    · have HH2 := hide h2
      clear h2
      go_wp2_with fail
      refine (isOne_no _ m L _ (HD.out.keep0 G1.out) HH2.out).mono ?_
      rintro e w3 ⟨rfl, rfl⟩
      go_wp2
      refine bodyPost_ret (v := .agg #[.bool below, .slice uo ul uc, .slice do_ dl dc]) (by simp [results, Tryd.results31, go_sem, c0, c1, c2]) rfl ?_
      refine lowest_end rfl G1.out ?_ (.inr ⟨?_, ?_⟩) ou.out od.out HCOP.out HNG.out
      · rw [HH1.out, Nat.div_one]; exact HU.out.keep0 G1.out
      · rw [HH1.out, Nat.div_one]; exact HD.out.keep0 G1.out
      · rw [HH1.out, Nat.div_one]; have := HH2.out; omega
  · have HH1 := hide h1
    clear h1
    go_wp2_with fail
    refine (isOne_no _ G L _ K1.out HH1.out).mono ?_
    rintro e w2 ⟨rfl, rfl⟩
    go_wp2_with fail
    refine (divide_num _ _ n G L L _ (HU.out.keep0 G1.out) K1.out hG0 (by omega)).mono ?_
    intro e w3 hD
    obtain ⟨q, r, rfl, k1, k2, k3, k4, k5⟩ := hD
    obtain ⟨qo, ql, qc, rfl, _, _, _⟩ := k1.shape
    obtain ⟨ro, rl, rc, rfl, _, _, _⟩ := k2.shape
    have N1 := hide k1
    have N3 := hide k3
    have N4 := hide k4
    clear k1 k2 k3 k4 k5
    go_wp2_with fail
    refine (divide_num _ _ m G L L _ (HD.out.keep0 (gr_none G1.out N3.out)) (K1.out.keep0 N3.out) hG0 (by omega)).mono ?_
    intro e w4 hD
    obtain ⟨q2, r2, rfl, k1, k2, k3, k4, k5⟩ := hD
    obtain ⟨qo2, ql2, qc2, rfl, _, _, _⟩ := k1.shape
    obtain ⟨ro2, rl2, rc2, rfl, _, _, _⟩ := k2.shape
    have M1 := hide k1
    have M3 := hide k3
    have M4 := hide k4
    clear k1 k2 k3 k4 k5
    have K4 := hide (gr_none K2.out (gr_none N3.out M3.out))
    have G4 := hide (gr_none G1.out (gr_none N3.out M3.out))
    have oq : Hid (Off w.heap.size (.slice qo ql qc)) := N4.out.off hgs
    have oq2 : Hid (Off w.heap.size (.slice qo2 ql2 qc2)) := M4.out.off (by have := N3.out.size; omega)
    obtain ⟨c0, c1, c2, cf⟩ := res_cells K4.out
    have cf0 := cf 0
    have cf1 := cf 1
    have cf2 := cf 2
    clear cf
    by_cases h2 : m / G = 1
    · have HH2 := hide h2
      clear h2
      go_wp2_with fail
      refine (isOne_yes _ L _ (by have := M1.out; rw [HH2.out] at this; exact this)).mono ?_
      rintro e w5 ⟨rfl, rfl⟩
      go_wp2
      refine bodyPost_ret (v := .agg #[.bool below, .slice qo ql qc, .slice none 0 0]) (by simp [results, Tryd.results31, go_sem, c0, c1, c2]) rfl ?_
      exact lowest_end rfl G4.out (N1.out.keep0 M3.out) (.inl ⟨rfl, HH2.out⟩) oq.out (fun k hk => by simp [blockOf] at hk) HCOP.out HNG.out
    · have HH2 := hide h2
      clear h2
      go_wp2_with fail
      refine (isOne_no _ (m / G) L _ M1.out HH2.out).mono ?_
      rintro e w5 ⟨rfl, rfl⟩
      go_wp2
      refine bodyPost_ret (v := .agg #[.bool below, .slice qo ql qc, .slice qo2 ql2 qc2]) (by simp [results, Tryd.results31, go_sem, c0, c1, c2]) rfl ?_
      exact lowest_end rfl G4.out (N1.out.keep0 M3.out) (.inr ⟨M1.out, by have := HH2.out; have := HMG.out; omega⟩) oq.out oq2.out HCOP.out HNG.out
end Go.Proofs.YtnhibcjhgeddlaaDoor
