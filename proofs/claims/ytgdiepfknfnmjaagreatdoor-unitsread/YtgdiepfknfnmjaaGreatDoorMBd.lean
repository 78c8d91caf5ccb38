/- voltaicbig: Int's in memory; give. -/
import Derived.Test.YtgdiepfknfnmjaaGreatDoorMBc
import Derived.Deep.RegionHeld3
namespace Go.Proofs.YtgdiepfknfnmjaaGreatDoor
open Go.RowKit
set_option linter.unusedVariables false

/-- An Int lies at cells off and off + 1 of block b: its sign and its words. -/
structure Box (w : World) (b off : Nat) (neg : Bool) (v : Value) : Prop where
  c0 : w.cell? ⟨b, off, none⟩ = some (.bool neg)
  c1 : w.cell? ⟨b, off + 1, none⟩ = some v
  f0 : w.frozen? ⟨b, off, none⟩ = false
  f1 : w.frozen? ⟨b, off + 1, none⟩ = false

theorem lt_of_cell {w : World} {a : Addr} {v : Value} (h : w.cell? a = some v) : a.block < w.heap.size := by
  rcases Nat.lt_or_ge a.block w.heap.size with h' | h'
  · exact h'
  · simp [World.cell?, Array.getElem?_eq_none h'] at h

theorem Box.lt {w : World} {b off : Nat} {neg : Bool} {v : Value} (h : Box w b off neg v) : b < w.heap.size := lt_of_cell h.c0

/-- w' is w with new blocks, and with writes to the Int at (b, off). -/
structure Put (w w' : World) (b off : Nat) : Prop where
  gr : w.grownBy w' (some b)
  rest : ∀ o, o ≠ off → o ≠ off + 1 → w'.cell? ⟨b, o, none⟩ = w.cell? ⟨b, o, none⟩
  fr : ∀ o, w'.frozen? ⟨b, o, none⟩ = w.frozen? ⟨b, o, none⟩

theorem Put.of_gr {w w' : World} (h : w.grownBy w' none) (b off : Nat) (hb : b < w.heap.size) : Put w w' b off :=
  ⟨⟨h.os, h.tape, h.output, h.size, fun k hk _ => h.block k hk (by simp)⟩, fun o _ _ => World.cell?_of_block (h.block b hb (by simp)), fun o => World.frozen?_of_block (h.block b hb (by simp))⟩

theorem Put.trans {w w1 w2 : World} {b off : Nat} (h : Put w w1 b off) (k : Put w1 w2 b off) : Put w w2 b off :=
  ⟨gr_trans h.gr k.gr (fun _ _ e => e) (fun _ _ e => e), fun o h1 h2 => (k.rest o h1 h2).trans (h.rest o h1 h2), fun o => (k.fr o).trans (h.fr o)⟩

theorem Put.set {w : World} {b off o : Nat} (v : Value) (ho : o = off ∨ o = off + 1) : Put w (w.setCell ⟨b, o, none⟩ v) b off := by
  refine ⟨⟨rfl, rfl, rfl, by simp, fun k _ hr => heap_setCell_other _ _ _ _ (fun e => hr (by rw [e]))⟩, fun o' h1 h2 => ?_, fun o' => by simp⟩
  refine World.cell?_setCell_other w ⟨b, o, none⟩ ⟨b, o', none⟩ v ?_
  intro e
  simp only [Addr.mk.injEq, true_and, and_true] at e
  omega

/-- Another Int stays. -/
theorem Box.keep {w w' : World} {b off b2 o2 : Nat} {neg : Bool} {v : Value} (h : Box w b off neg v) (hp : Put w w' b2 o2) (hne : b ≠ b2 ∨ off + 1 < o2 ∨ o2 + 1 < off) : Box w' b off neg v := by
  by_cases hb : b = b2
  · subst hb
    have h' : off + 1 < o2 ∨ o2 + 1 < off := by rcases hne with h | h; exact absurd rfl h; exact h
    exact ⟨(hp.rest off (by omega) (by omega)).trans h.c0, (hp.rest (off + 1) (by omega) (by omega)).trans h.c1, (hp.fr off).trans h.f0, (hp.fr (off + 1)).trans h.f1⟩
  · have e : w'.heap[b]? = w.heap[b]? := hp.gr.block b h.lt (fun e => hb (Option.some.inj e))
    exact ⟨(World.cell?_of_block (a := ⟨b, off, none⟩) e).trans h.c0, (World.cell?_of_block (a := ⟨b, off + 1, none⟩) e).trans h.c1, (World.frozen?_of_block (a := ⟨b, off, none⟩) e).trans h.f0, (World.frozen?_of_block (a := ⟨b, off + 1, none⟩) e).trans h.f1⟩

theorem Box.keep0 {w w' : World} {b off : Nat} {neg : Bool} {v : Value} (h : Box w b off neg v) (hg : w.grownBy w' none) : Box w' b off neg v := by
  have e : w'.heap[b]? = w.heap[b]? := hg.block b h.lt (by simp)
  exact ⟨(World.cell?_of_block (a := ⟨b, off, none⟩) e).trans h.c0, (World.cell?_of_block (a := ⟨b, off + 1, none⟩) e).trans h.c1, (World.frozen?_of_block (a := ⟨b, off, none⟩) e).trans h.f0, (World.frozen?_of_block (a := ⟨b, off + 1, none⟩) e).trans h.f1⟩

/-- The whole number z lies at (b, off), in at most L words. -/
def IntAt (w : World) (b off : Nat) (z : Int) (L : Nat) : Prop :=
  ∃ neg v, Box w b off neg v ∧ Num w v z.natAbs L ∧ neg = decide (z < 0) ∧ blockOf v ≠ some b

/-- What the Int at (b, off) holds in w' lies in memory that is new since w. -/
def NewIn (w w' : World) (b off : Nat) : Prop := ∀ v, w'.cell? ⟨b, off + 1, none⟩ = some v → Fresh w v
theorem NewIn.of {w w1 w' : World} {b off : Nat} {v : Value} (hc : w'.cell? ⟨b, off + 1, none⟩ = some v) (hf : Fresh w1 v) (hs : w.heap.size ≤ w1.heap.size) : NewIn w w' b off := fun u hu => by
  rw [hc] at hu
  have := Option.some.inj hu
  subst this
  intro k hk
  exact Nat.le_trans hs (hf k hk)

/-- A sign and a size. -/
def sg (neg : Bool) (n : Nat) : Int := if neg then -(n : Int) else n
theorem sg_of (x : Int) (neg : Bool) (h : neg = decide (x < 0)) : sg neg x.natAbs = x := by
  subst h
  unfold sg
  by_cases hx : x < 0
  · simp [hx]; omega
  · simp [hx]; omega

theorem sg_not (x : Int) (neg : Bool) (h : neg = decide (x < 0)) : sg (!neg) x.natAbs = -x := by
  subst h
  unfold sg
  by_cases hx : x < 0
  · simp [hx]; omega
  · simp [hx]; omega
theorem sg_mul (x y : Int) (a b : Bool) (ha : a = decide (x < 0)) (hb : b = decide (y < 0)) : sg (a != b) (x.natAbs * y.natAbs) = x * y := by
  have e1 := sg_of x a ha
  have e2 := sg_of y b hb
  rw [← Int.natAbs_mul]
  generalize hm : (x * y).natAbs = m
  have hm' : (m : Int) = (x.natAbs : Int) * (y.natAbs : Int) := by rw [← hm, Int.natAbs_mul, Int.natCast_mul]
  rw [← e1, ← e2]
  unfold sg
  cases a <;> cases b <;> simp [hm', Int.neg_mul, Int.mul_neg]

set_option maxHeartbeats 1000000 in
/-- give, to an Int that lies at (b, off): z := -n or n. -/
theorem give_num (b off : Nat) (neg0 : Bool) (v0 : Value) (neg : Bool) (v : Value) (n L : Nat) (w : World) (hB : Box w b off neg0 v0) (hn : Num w v n L) (hvb : blockOf v ≠ some b) :
    Calls Tryz.prog 72 #[.pointer (some ⟨b, off, none⟩), .bool neg, v] w fun e w' => e = .returned (.pointer (some ⟨b, off, none⟩)) ∧ Put w w' b off ∧ IntAt w' b off (sg neg n) L ∧ w'.cell? ⟨b, off + 1, none⟩ = some v := by
  obtain ⟨xs, x1, x2, x3, x4⟩ := hn
  obtain ⟨ao, ca, rfl, hca, hca', _⟩ := x1.open
  unfold maxLen at hca'
  have HB := hide hB
  have X1 := hide x1
  have X2 := hide x2
  have X3 := hide x3
  have c0 := hB.c0
  have c1 := hB.c1
  have f0 := hB.f0
  have f1 := hB.f1
  have VB := hide hvb
  clear hB x1 x2 x3 hvb
  have fin : ∀ (nb : Bool), nb = (neg && decide (0 < xs.length)) → Put w ((w.setCell ⟨b, off + 1, none⟩ (.slice ao xs.length ca)).setCell ⟨b, off, none⟩ (.bool nb)) b off ∧ IntAt ((w.setCell ⟨b, off + 1, none⟩ (.slice ao xs.length ca)).setCell ⟨b, off, none⟩ (.bool nb)) b off (sg neg n) L ∧ ((w.setCell ⟨b, off + 1, none⟩ (.slice ao xs.length ca)).setCell ⟨b, off, none⟩ (.bool nb)).cell? ⟨b, off + 1, none⟩ = some (.slice ao xs.length ca) := by
    intro nb hnb
    have hP : Put w ((w.setCell ⟨b, off + 1, none⟩ (.slice ao xs.length ca)).setCell ⟨b, off, none⟩ (.bool nb)) b off := (Put.set _ (.inr rfl)).trans (Put.set _ (.inl rfl))
    have hc : ((w.setCell ⟨b, off + 1, none⟩ (.slice ao xs.length ca)).setCell ⟨b, off, none⟩ (.bool nb)).cell? ⟨b, off + 1, none⟩ = some (.slice ao xs.length ca) := by
      rw [World.cell?_setCell_other _ _ _ _ (by simp)]
      exact World.cell?_setCell_same _ _ _ HB.out.c1
    refine ⟨hP, ⟨nb, .slice ao xs.length ca, ⟨?_, hc, ?_, ?_⟩, ?_, ?_, VB.out⟩, hc⟩
    · exact World.cell?_setCell_same _ _ _ (by rw [World.cell?_setCell_other _ _ _ _ (by simp)]; exact HB.out.c0)
    · rw [hP.fr]; exact HB.out.f0
    · rw [hP.fr]; exact HB.out.f1
    · have : (sg neg n).natAbs = n := by unfold sg; split <;> omega
      rw [this]
      exact ⟨xs, X1.out.keep hP.gr (fun k e h => by cases e; exact VB.out h), X2.out, X3.out, x4⟩
    · rw [hnb]
      have hx := X3.out
      by_cases h0 : xs.length = 0
      · have : xs = [] := List.eq_nil_of_length_eq_zero h0
        rw [this] at hx ⊢
        simp only [val] at hx
        subst hx
        cases neg <;> simp [sg]
      · have hp : 0 < n := by
          have := tr_ge X2.out (by intro e; rw [e] at h0; simp at h0)
          have p3 : 0 < 4294967296 ^ (xs.length - 1) := Nat.pow_pos (by decide)
          omega
        cases neg
        · simp [sg]
        · simp only [sg, if_true, Bool.true_and]
          rw [decide_eq_true (by omega), decide_eq_true (by omega)]
  have FIN := hide fin
  clear fin
  cases neg
  · go_enter Tryz.func72, Tryz.ntmps72
    go_wp2
    go_ret
    exact ⟨rfl, FIN.out _ (by simp)⟩
  · by_cases h0 : 0 < xs.length
    · go_enter Tryz.func72, Tryz.ntmps72
      go_wp2
      go_ret
      exact ⟨rfl, FIN.out _ (by simp [h0])⟩
    · go_enter Tryz.func72, Tryz.ntmps72
      go_wp2
      go_ret
      exact ⟨rfl, FIN.out _ (by simp [h0])⟩
end Go.Proofs.YtgdiepfknfnmjaaGreatDoor

namespace Go.Proofs.YtgdiepfknfnmjaaGreatDoor
open Go.RowKit
set_option linter.unusedVariables false

theorem gr_of_put {w w1 w' : World} {b off : Nat} (h : w.grownBy w1 none) (hp : Put w1 w' b off) (hb : w.heap.size ≤ b) : w.grownBy w' none :=
  gr_trans h hp.gr (fun _ _ e => e) (fun k hk e => by cases e; omega)

theorem gr_dn {w : World} (k : Nat) : w.grownBy (w.drewN k) none := gr_drewN (gr_refl _ _) k

theorem IntAt.keep {w w' : World} {b off b2 o2 L : Nat} {z : Int} (h : IntAt w b off z L) (hp : Put w w' b2 o2) (hne : b ≠ b2 ∨ off + 1 < o2 ∨ o2 + 1 < off) (hv : ∀ v, w.cell? ⟨b, off + 1, none⟩ = some v → blockOf v ≠ some b2) : IntAt w' b off z L := by
  obtain ⟨neg, v, h1, h2, h3, h4⟩ := h
  exact ⟨neg, v, h1.keep hp hne, h2.keep hp.gr (fun k e => by cases e; exact hv v h1.c1), h3, h4⟩
theorem IntAt.keep0 {w w' : World} {b off L : Nat} {z : Int} (h : IntAt w b off z L) (hg : w.grownBy w' none) : IntAt w' b off z L := by
  obtain ⟨neg, v, h1, h2, h3, h4⟩ := h
  exact ⟨neg, v, h1.keep0 hg, h2.keep0 hg, h3, h4⟩
theorem IntAt.lt {w : World} {b off L : Nat} {z : Int} (h : IntAt w b off z L) : b < w.heap.size := by
  obtain ⟨neg, v, h1, h2, h3, h4⟩ := h
  exact h1.lt
theorem IntAt.mono {w : World} {b off L L' : Nat} {z : Int} (h : IntAt w b off z L) (hl : L ≤ L') : IntAt w b off z L' := by
  obtain ⟨neg, v, h1, h2, h3, h4⟩ := h
  exact ⟨neg, v, h1, h2.mono hl, h3, h4⟩

theorem fresh_ne {w w1 : World} {v : Value} {b : Nat} (h : Fresh w v) (hb : b < w.heap.size) : blockOf v ≠ some b := fun e => by
  have := h b e
  omega

theorem newBox (w : World) : Box (w.alloc (.cells #[.bool false, .slice none 0 0] 56)) w.heap.size 0 false (.slice none 0 0) :=
  ⟨by simp, by simp, by simp, by simp⟩

set_option maxHeartbeats 400000 in
theorem setInt64_at (b off : Nat) (neg0 : Bool) (v0 : Value) (x : Int) (w : World) (hB : Box w b off neg0 v0) (h1 : -9223372036854775808 ≤ x) (h2 : x ≤ 9223372036854775807) :
    Calls Tryz.prog 85 #[.pointer (some ⟨b, off, none⟩), .int .i64 x] w fun e w' => e = .returned (.pointer (some ⟨b, off, none⟩)) ∧ Put w w' b off ∧ IntAt w' b off x 2 ∧ NewIn w w' b off := by
  have HB := hide hB
  have hb := hB.lt
  clear hB
  by_cases hx : x < 0
  · have hneg : IntKind.u64.wrap (-IntKind.u64.wrap x) = -x := by rw [IntKind.wrap_u64, IntKind.wrap_u64]; omega
    go_enter Tryz.func85, Tryz.ntmps85
    go_wp2_with fail
    refine (words_num _ _ ?p1 ?p2).mono ?_
    case p1 => omega
    case p2 => omega
    rintro e w1 ⟨v', rfl, k1, k2, k3⟩
    have K1 := hide k1
    have K2 := hide k2
    have K3 := hide k3
    clear k1 k2 k3
    go_wp2_with fail
    refine (give_num b off neg0 v0 _ v' _ 2 w1 (HB.out.keep0 K2.out) K1.out (fresh_ne (w1 := w) K3.out hb)).mono ?_
    rintro e w2 ⟨rfl, a1, a2, a5⟩
    have A5 := hide a5
    clear a5
    have A1 := hide a1
    have A2 := hide a2
    clear a1 a2
    go_wp2
    go_ret
    refine ⟨rfl, (Put.of_gr K2.out b off hb).trans A1.out, ?_, NewIn.of A5.out K3.out (Nat.le_refl _)⟩
    have h := A2.out
    rw [show (-x).toNat = x.natAbs from by omega, sg_of x true (by simp [hx])] at h
    exact h
  · go_enter Tryz.func85, Tryz.ntmps85
    go_wp2_with fail
    refine (words_num _ _ (by omega) (by omega)).mono ?_
    rintro e w1 ⟨v', rfl, k1, k2, k3⟩
    have K1 := hide k1
    have K2 := hide k2
    have K3 := hide k3
    clear k1 k2 k3
    go_wp2_with fail
    refine (give_num b off neg0 v0 _ v' _ 2 w1 (HB.out.keep0 K2.out) K1.out (fresh_ne (w1 := w) K3.out hb)).mono ?_
    rintro e w2 ⟨rfl, a1, a2, a5⟩
    have A5 := hide a5
    clear a5
    have A1 := hide a1
    have A2 := hide a2
    clear a1 a2
    go_wp2
    go_ret
    refine ⟨rfl, (Put.of_gr K2.out b off hb).trans A1.out, ?_, NewIn.of A5.out K3.out (Nat.le_refl _)⟩
    have h := A2.out
    rw [show x.toNat = x.natAbs from by omega, sg_of x _ (by first | rfl | (simp; omega))] at h
    exact h

set_option maxHeartbeats 400000 in
theorem newInt_at (x : Int) (w : World) (h1 : -9223372036854775808 ≤ x) (h2 : x ≤ 9223372036854775807) :
    Calls Tryz.prog 40 #[.int .i64 x] w fun e w' => e = .returned (.pointer (some ⟨w.heap.size, 0, none⟩)) ∧ w.grownBy w' none ∧ IntAt w' w.heap.size 0 x 2 ∧ NewIn w w' w.heap.size 0 := by
  go_enter Tryz.func40, Tryz.ntmps40
  go_wp2_with fail
  refine (setInt64_at w.heap.size 0 false (.slice none 0 0) x _ (newBox w) h1 h2).mono ?_
  rintro e w1 ⟨rfl, a1, a2, a5⟩
  have A5 := hide a5
  clear a5
  have A1 := hide a1
  have A2 := hide a2
  clear a1 a2
  go_wp2
  go_ret
  exact ⟨rfl, gr_of_put (gr_alloc (gr_refl _ _) _) A1.out (Nat.le_refl _), A2.out, fun v hv k hk => Nat.le_trans (by simp) (A5.out v hv k hk)⟩
end Go.Proofs.YtgdiepfknfnmjaaGreatDoor

namespace Go.Proofs.YtgdiepfknfnmjaaGreatDoor
open Go.RowKit
set_option linter.unusedVariables false

set_option maxHeartbeats 1000000 in
theorem set_at (b off bx ox : Nat) (neg0 : Bool) (v0 : Value) (x : Int) (L : Nat) (w : World) (hB : Box w b off neg0 v0) (hX : IntAt w bx ox x L) (hL : L ≤ 1000000000) :
    Calls Tryz.prog 37 #[.pointer (some ⟨b, off, none⟩), .pointer (some ⟨bx, ox, none⟩)] w fun e w' => e = .returned (.pointer (some ⟨b, off, none⟩)) ∧ Put w w' b off ∧ IntAt w' b off x L ∧ NewIn w w' b off := by
  have HB := hide hB
  have hb := hB.lt
  obtain ⟨neg, v, h1, h2, h3, h4⟩ := hX
  have HX := hide h1
  have c0 := h1.c0
  have c1 := h1.c1
  have H2 := hide h2
  have H3 := hide h3
  clear hB h1 h2 h3 h4
  go_enter Tryz.func37, Tryz.ntmps37
  go_wp2
  go_region_with (first | (go_at_call 83; refine (twin_num _ _ L _ (H2.out.keep0 (gr_dn _)) (by omega)).mono ?_; rintro e w1 ⟨v', rfl, k1, k2, k3⟩; have q0 := (HX.out.keep0 (gr_none (gr_dn _) k2)).c0) | (go_at_call 72; refine (give_num b off neg0 v0 neg v' _ L w1 (HB.out.keep0 (gr_none (gr_dn _) k2)) k1 (fresh_ne (w1 := w) k3 hb)).mono ?_; rintro e w2 ⟨rfl, a1, a2, a5⟩))
  all_goals go_wp2
  all_goals go_ret
  all_goals rw [sg_of x neg H3.out] at a2
  all_goals exact ⟨rfl, (Put.of_gr (gr_none (gr_dn _) k2) b off hb).trans a1, a2, NewIn.of a5 k3 (Nat.le_refl _)⟩

set_option maxHeartbeats 1000000 in
theorem neg_at (b off bx ox : Nat) (neg0 : Bool) (v0 : Value) (x : Int) (L : Nat) (w : World) (hB : Box w b off neg0 v0) (hX : IntAt w bx ox x L) (hL : L ≤ 1000000000) :
    Calls Tryz.prog 99 #[.pointer (some ⟨b, off, none⟩), .pointer (some ⟨bx, ox, none⟩)] w fun e w' => e = .returned (.pointer (some ⟨b, off, none⟩)) ∧ Put w w' b off ∧ IntAt w' b off (-x) L ∧ NewIn w w' b off := by
  have HB := hide hB
  have hb := hB.lt
  obtain ⟨neg, v, h1, h2, h3, h4⟩ := hX
  have HX := hide h1
  have c0 := h1.c0
  have c1 := h1.c1
  have H2 := hide h2
  have H3 := hide h3
  clear hB h1 h2 h3 h4
  go_enter Tryz.func99, Tryz.ntmps99
  go_wp2
  go_region_with (first | (go_at_call 83; refine (twin_num _ _ L _ (H2.out.keep0 (gr_dn _)) (by omega)).mono ?_; rintro e w1 ⟨v', rfl, k1, k2, k3⟩; have q0 := (HX.out.keep0 (gr_none (gr_dn _) k2)).c0) | (go_at_call 72; refine (give_num b off neg0 v0 (!neg) v' _ L w1 (HB.out.keep0 (gr_none (gr_dn _) k2)) k1 (fresh_ne (w1 := w) k3 hb)).mono ?_; rintro e w2 ⟨rfl, a1, a2, a5⟩))
  all_goals go_wp2
  all_goals go_ret
  all_goals rw [sg_not x neg H3.out] at a2
  all_goals exact ⟨rfl, (Put.of_gr (gr_none (gr_dn _) k2) b off hb).trans a1, a2, NewIn.of a5 k3 (Nat.le_refl _)⟩

end Go.Proofs.YtgdiepfknfnmjaaGreatDoor

namespace Go.Proofs.YtgdiepfknfnmjaaGreatDoor
open Go.RowKit
set_option linter.unusedVariables false

set_option maxHeartbeats 1000000 in
theorem mul_at (b off bx ox bY oY : Nat) (neg0 : Bool) (v0 : Value) (x y : Int) (L M : Nat) (w : World) (hB : Box w b off neg0 v0) (hX : IntAt w bx ox x L) (hY : IntAt w bY oY y M) (hL : L + M ≤ 1000000000) (hnx : bx ≠ b) (hny : bY ≠ b) :
    Calls Tryz.prog 82 #[.pointer (some ⟨b, off, none⟩), .pointer (some ⟨bx, ox, none⟩), .pointer (some ⟨bY, oY, none⟩)] w fun e w' => e = .returned (.pointer (some ⟨b, off, none⟩)) ∧ Put w w' b off ∧ IntAt w' b off (x * y) (L + M) ∧ NewIn w w' b off := by
  have HB := hide hB
  have hb := hB.lt
  obtain ⟨neg, v, h1, h2, h3, h4⟩ := hX
  obtain ⟨neg', u, h1', h2', h3', h4'⟩ := hY
  have HX := hide h1
  have c0 := h1.c0
  have c1 := h1.c1
  have HY := hide h1'
  have d0 := h1'.c0
  have d1 := h1'.c1
  have H2 := hide h2
  have H3 := hide h3
  have H2' := hide h2'
  have H3' := hide h3'
  clear hB h1 h2 h3 h4 h1' h2' h3' h4'
  go_enter Tryz.func82, Tryz.ntmps82
  go_wp2
  go_region_held3 (fun w' => w'.cell? ⟨bx, ox, none⟩ = some (.bool neg) ∧ w'.cell? ⟨bx, ox + 1, none⟩ = some v ∧ w'.cell? ⟨bY, oY, none⟩ = some (.bool neg') ∧ w'.cell? ⟨bY, oY + 1, none⟩ = some u) (go_keep)
    (first | (go_at_call 70; refine (mul_num _ _ _ _ L M _ (H2.out.keep0 (gr_dn _)) (H2'.out.keep0 (gr_dn _)) (by omega)).mono ?_; rintro e w1 ⟨v', rfl, k1, k2, k3⟩; have q0 := (HX.out.keep0 (gr_none (gr_dn _) k2)).c0; have q0' := (HX.out.keep0 (gr_none (gr_dn _) k2)).c1; have q1 := (HY.out.keep0 (gr_none (gr_dn _) k2)).c0; have q1' := (HY.out.keep0 (gr_none (gr_dn _) k2)).c1) | (go_at_call 72; refine (give_num b off neg0 v0 (neg != neg') v' _ (L + M) w1 (HB.out.keep0 (gr_none (gr_dn _) k2)) k1 (fresh_ne (w1 := w) k3 hb)).mono ?_; rintro e w2 ⟨rfl, a1, a2, a5⟩; have r0 := ((HX.out.keep0 (gr_none (gr_dn _) k2)).keep a1 (.inl hnx)).c0; have r1 := ((HX.out.keep0 (gr_none (gr_dn _) k2)).keep a1 (.inl hnx)).c1; have r2 := ((HY.out.keep0 (gr_none (gr_dn _) k2)).keep a1 (.inl hny)).c0; have r3 := ((HY.out.keep0 (gr_none (gr_dn _) k2)).keep a1 (.inl hny)).c1))
  all_goals go_wp2
  all_goals go_ret
  all_goals rw [sg_mul x y neg neg' H3.out H3'.out] at a2
  all_goals exact ⟨rfl, (Put.of_gr (gr_none (gr_dn _) k2) b off hb).trans a1, a2, NewIn.of a5 k3 (Nat.le_refl _)⟩
end Go.Proofs.YtgdiepfknfnmjaaGreatDoor
