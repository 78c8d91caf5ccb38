/- line: one, lineOf, over. -/
import Derived.Test.YtdpagdlmpajjkafGreatDoorXZc
import Derived.Test.YtdpagdlmpajjkafGreatDoorXZo
import Derived.Test.YtdpagdlmpajjkafGreatDoorXZa
namespace Go.Proofs.YtdpagdlmpajjkafGreatDoor
open Go.RowKit
set_option linter.unusedVariables false
set_option linter.unusedSimpArgs false
set_option maxHeartbeats 4000000 in
theorem one_at (w : World) : Calls Tryz.prog 153 #[] w fun e w' => FQE w 1 1 e w' := by
  obtain ⟨W, hW⟩ : ∃ W, W = (w.alloc (Obj.cells #[.bool false, .slice none 0 0, .slice none 0 0] 114)) := ⟨_, rfl⟩
  have GW : Hid (w.grownBy W none) := by rw [hW]; exact gr_alloc (gr_refl _ _) _
  have BR : Hid (∀ wx, W.grownBy wx none → BoxC wx (w.heap.size) #[.bool false, .slice none 0 0, .slice none 0 0]) := by
    intro wx hg
    rw [hW] at hg
    have h0 := (boxNew' w #[.bool false, .slice none 0 0, .slice none 0 0] 114 (w.heap.size) (by simp))
    exact (h0).keep0 hg
  go_enter Tryz.func153, Tryz.ntmps153
  go_wp2_with fail
  rw [← hW]
  refine (ofWord_at 1 W (by decide)).mono ?_
  rintro e w1 ⟨v1, rfl, p1, g1⟩
  obtain ⟨ak, ao1, al1, ac1, ao2, al2, ac2, rfl⟩ := p1.letters
  have e1 : (((1 : Nat) : Rat)) = 1 := rfl
  rw [e1] at p1
  have P1 := hide p1
  have G1 := hide g1
  obtain ⟨r0, r1, r2, rf0, rf1, rf2⟩ := (BR.out w1 g1).c3
  have BR1 := hide (BR.out w1 g1)
  clear p1 g1 hW e1
  go_wp2
  refine bodyPost_ret (v := .agg #[.bool ak, .slice ao1 al1 ac1, .slice ao2 al2 ac2]) (by first | (simp [results, Tryz.results153, go_sem, r0, r1, r2]; done) | (simp [results, Tryz.results153, go_sem, r0, r1, r2]; rfl)) rfl ?_
  exact ⟨_, rfl, P1.out.kept (BR1.out.kept3 _ _ _ (noWd3 _ _ _ _ _ _ _)), gr_set (gr_set (gr_set (gr_none GW.out G1.out) _ _ (by first | (simp; done) | (simp; omega))) _ _ (by first | (simp; done) | (simp; omega))) _ _ (by first | (simp; done) | (simp; omega))⟩
def LinE (w : World) (q : Rat) (L : Nat) (e : Ending) (w' : World) : Prop := w.grownBy w' none ∧ ((0 < q ∧ ∃ (k : Bool) (o1 : Option Addr) (l1 c1 : Nat) (o2 : Option Addr) (l2 c2 : Nat), e = .returned (.tuple #[.agg #[.bool k, .slice o1 l1 c1, .slice o2 l2 c2], .int .i64 0]) ∧ FQ w' (.agg #[.bool k, .slice o1 l1 c1, .slice o2 l2 c2]) q L) ∨ (¬ 0 < q ∧ e = .returned (.tuple #[.agg #[.bool false, .slice none 0 0, .slice none 0 0], .int .i64 5])))
theorem num_pos {q : Rat} : 0 < q.num ↔ 0 < q := by
  rw [Rat.lt_iff]
  simp
theorem sign_pos {q : Rat} (h : 0 < q) : q.num.sign = 1 := Int.sign_eq_one_of_pos (num_pos.2 h)
theorem sign_le {q : Rat} (h : ¬ 0 < q) : q.num.sign ≤ 0 := by
  have : ¬ 0 < q.num := fun e => h (num_pos.1 e)
  rcases Int.lt_trichotomy q.num 0 with k | k | k
  · rw [Int.sign_eq_neg_one_of_neg k]; decide
  · rw [k]; decide
  · exact absurd k this
set_option maxHeartbeats 8000000 in
set_option maxRecDepth 10000 in
theorem lineOf_at (s : ByteArray) (q : Rat) (m : Int) (L : Nat) (w : World) (hq0 : q = ofR s.data.toList) (hs : s.size ≤ 600000000) (hf : FitW L q) (hml : w.cell? ⟨0, 0, none⟩ = some (.int .i64 m)) :
    Calls Tryz.prog 72 #[.string s] w fun e w' => LinE w q L e w' := by
  have HQ := hide hq0
  have HF := hide hf
  have HM := hide hml
  clear hq0 hf hml
  obtain ⟨W, hW⟩ : ∃ W, W = (w.alloc (Obj.cells #[.bool false, .slice none 0 0, .slice none 0 0] 114)) := ⟨_, rfl⟩
  have GW : Hid (w.grownBy W none) := by rw [hW]; exact gr_alloc (gr_refl _ _) _
  have BR : Hid (∀ wx, W.grownBy wx none → BoxC wx (w.heap.size) #[.bool false, .slice none 0 0, .slice none 0 0]) := by
    intro wx hg
    rw [hW] at hg
    have h0 := (boxNew' w #[.bool false, .slice none 0 0, .slice none 0 0] 114 (w.heap.size) (by simp))
    exact (h0).keep0 hg
  by_cases hq : 0 < q
  · have hsg : q.num.sign = 1 := sign_pos hq
    go_enter Tryz.func72, Tryz.ntmps72
    go_wp2_with fail
    rw [← hW]
    clear hW
    refine (qOf_fit s m L W hs (HQ.out ▸ HF.out) (gr_cell GW.out HM.out)).mono ?_
    rintro e w1 ⟨v1, rfl, p1, g1⟩
    rw [← HQ.out] at p1
    obtain ⟨ak, ao1, al1, ac1, ao2, al2, ac2, rfl⟩ := p1.letters
    have P1 := hide p1
    have G1 := hide g1
    clear p1 g1
    go_upto_region 2 with fail
    obtain ⟨W2, hW2⟩ : ∃ wz, wz = (w1.alloc (Obj.cells #[.bool ak, .slice ao1 al1 ac1, .slice ao2 al2 ac2] 114)) := ⟨_, rfl⟩
    have GW2 : Hid (w1.grownBy W2 none) := by rw [hW2]; exact gr_alloc (gr_refl _ _) _
    have BO : Hid (∀ wx, W2.grownBy wx none → BoxC wx w1.heap.size #[.bool ak, .slice ao1 al1 ac1, .slice ao2 al2 ac2]) := by
      intro wx g
      rw [hW2] at g
      exact (boxNew w1 #[.bool ak, .slice ao1 al1 ac1, .slice ao2 al2 ac2] 114).keep0 g
    rw [← hW2]
    clear hW2
    obtain ⟨o0, o1, o2, of0, of1, of2⟩ := (BO.out W2 (gr_refl _ _)).c3
    have GA := hide (gr_none G1.out GW2.out)
    go_wp2_with fail
    refine (fSign_at _ q L W2 (P1.out.keep0 GW2.out)).mono ?_
    rintro e w3 ⟨rfl, g3⟩
    have GB := hide (gr_none GA.out g3)
    rw [hsg]
    obtain ⟨p0, p1, p2, pf0, pf1, pf2⟩ := (BO.out w3 g3).c3
    obtain ⟨r0, r1, r2, rf0, rf1, rf2⟩ := (BR.out w3 GB.out).c3
    have BR3 := hide (BR.out w3 GB.out)
    have P3 := hide ((P1.out.keep0 GW2.out).keep0 g3)
    clear g3
    go_wp2
    refine bodyPost_ret (v := .tuple #[.agg #[.bool ak, .slice ao1 al1 ac1, .slice ao2 al2 ac2], .int .i64 0]) (by first | (simp [results, Tryz.results72, go_sem, r0, r1, r2]; done) | (simp [results, Tryz.results72, go_sem, r0, r1, r2]; rfl)) rfl ?_
    exact ⟨gr_set (gr_set (gr_set (gr_none GW.out GB.out) _ _ (by first | (simp; done) | (simp; omega))) _ _ (by first | (simp; done) | (simp; omega))) _ _ (by first | (simp; done) | (simp; omega)), .inl ⟨hq, _, _, _, _, _, _, _, rfl, P3.out.kept (BR3.out.kept3 _ _ _ (noWd3 _ _ _ _ _ _ _))⟩⟩
  · have hsg : q.num.sign ≤ 0 := sign_le hq
    go_enter Tryz.func72, Tryz.ntmps72
    go_wp2_with fail
    rw [← hW]
    clear hW
    refine (qOf_fit s m L W hs (HQ.out ▸ HF.out) (gr_cell GW.out HM.out)).mono ?_
    rintro e w1 ⟨v1, rfl, p1, g1⟩
    rw [← HQ.out] at p1
    obtain ⟨ak, ao1, al1, ac1, ao2, al2, ac2, rfl⟩ := p1.letters
    have P1 := hide p1
    have G1 := hide g1
    clear p1 g1
    go_upto_region 2 with fail
    obtain ⟨W2, hW2⟩ : ∃ wz, wz = (w1.alloc (Obj.cells #[.bool ak, .slice ao1 al1 ac1, .slice ao2 al2 ac2] 114)) := ⟨_, rfl⟩
    have GW2 : Hid (w1.grownBy W2 none) := by rw [hW2]; exact gr_alloc (gr_refl _ _) _
    have BO : Hid (∀ wx, W2.grownBy wx none → BoxC wx w1.heap.size #[.bool ak, .slice ao1 al1 ac1, .slice ao2 al2 ac2]) := by
      intro wx g
      rw [hW2] at g
      exact (boxNew w1 #[.bool ak, .slice ao1 al1 ac1, .slice ao2 al2 ac2] 114).keep0 g
    rw [← hW2]
    clear hW2
    obtain ⟨o0, o1, o2, of0, of1, of2⟩ := (BO.out W2 (gr_refl _ _)).c3
    have GA := hide (gr_none G1.out GW2.out)
    go_wp2_with fail
    refine (fSign_at _ q L W2 (P1.out.keep0 GW2.out)).mono ?_
    rintro e w3 ⟨rfl, g3⟩
    have GB := hide (gr_none GA.out g3)
    obtain ⟨sg, hsg2⟩ : ∃ z, z = q.num.sign := ⟨_, rfl⟩
    rw [← hsg2] at hsg ⊢
    have hsl : decide (sg ≤ 0) = true := decide_eq_true hsg
    have hsh := hide hsg2
    clear hsg2
    obtain ⟨p0, p1, p2, pf0, pf1, pf2⟩ := (BO.out w3 g3).c3
    obtain ⟨r0, r1, r2, rf0, rf1, rf2⟩ := (BR.out w3 GB.out).c3
    have BR3 := hide (BR.out w3 GB.out)
    have P3 := hide ((P1.out.keep0 GW2.out).keep0 g3)
    clear g3
    go_wp2
    refine bodyPost_ret (v := .tuple #[.agg #[.bool false, .slice none 0 0, .slice none 0 0], .int .i64 5]) (by first | (simp [results, Tryz.results72, go_sem, r0, r1, r2]; done) | (simp [results, Tryz.results72, go_sem, r0, r1, r2]; rfl)) rfl ?_
    exact ⟨gr_set (gr_set (gr_set (gr_none GW.out GB.out) _ _ (by first | (simp; done) | (simp; omega))) _ _ (by first | (simp; done) | (simp; omega))) _ _ (by first | (simp; done) | (simp; omega)), .inr ⟨hq, rfl⟩⟩
def ZcE (w : World) (bad : Prop) (p q : Rat) (L : Nat) (e : Ending) (w' : World) : Prop := w.grownBy w' none ∧ ((bad ∧ e = .returned (.tuple #[.agg #[.bool false, .slice none 0 0, .slice none 0 0, .bool false, .slice none 0 0, .slice none 0 0], .int .i64 9])) ∨ (¬ bad ∧ ∃ v, e = .returned (.tuple #[v, .int .i64 0]) ∧ ZQ w' v p q L))
set_option maxHeartbeats 8000000 in
set_option maxRecDepth 10000 in
theorem lOver_at (x y : Value) (p q r s : Rat) (L M : Nat) (w : World) (hx : ZQ w x p q L) (hy : ZQ w y r s M) (hl : L + M ≤ 400000000000) :
    Calls Tryz.prog 150 #[x, y] w fun e w' => ZcE w (r = 0 ∧ s = 0) (cdR p q r s) (cdI p q r s) (2 * L + 6 * M + 10) e w' := by
  obtain ⟨xk1, xo1, xl1, xc1, xo2, xl2, xc2, xk2, xo3, xl3, xc3, xo4, xl4, xc4, rfl, _, _⟩ := hx.letters
  obtain ⟨yk1, yo1, yl1, yc1, yo2, yl2, yc2, yk2, yo3, yl3, yc3, yo4, yl4, yc4, rfl, _, _⟩ := hy.letters
  have HX := hide hx
  have HY := hide hy
  clear hx hy
  obtain ⟨W, hW⟩ : ∃ W, W = (((w.alloc (Obj.cells #[.bool xk1, .slice xo1 xl1 xc1, .slice xo2 xl2 xc2, .bool xk2, .slice xo3 xl3 xc3, .slice xo4 xl4 xc4] 119)).alloc (Obj.cells #[.bool yk1, .slice yo1 yl1 yc1, .slice yo2 yl2 yc2, .bool yk2, .slice yo3 yl3 yc3, .slice yo4 yl4 yc4] 119)).alloc (Obj.cells #[.bool false, .slice none 0 0, .slice none 0 0, .bool false, .slice none 0 0, .slice none 0 0] 119)) := ⟨_, rfl⟩
  have GW : Hid (w.grownBy W none) := by rw [hW]; exact gr_alloc (gr_alloc (gr_alloc (gr_refl _ _) _) _) _
  have BX : Hid (∀ wx, W.grownBy wx none → BoxC wx (w.heap.size) #[.bool xk1, .slice xo1 xl1 xc1, .slice xo2 xl2 xc2, .bool xk2, .slice xo3 xl3 xc3, .slice xo4 xl4 xc4]) := by
    intro wx hg
    rw [hW] at hg
    have h0 := (boxNew' w #[.bool xk1, .slice xo1 xl1 xc1, .slice xo2 xl2 xc2, .bool xk2, .slice xo3 xl3 xc3, .slice xo4 xl4 xc4] 119 (w.heap.size) (by simp))
    exact (((h0).keep0 (gr_alloc (gr_refl _ _) _)).keep0 (gr_alloc (gr_refl _ _) _)).keep0 hg
  have BY : Hid (∀ wx, W.grownBy wx none → BoxC wx (w.heap.size + 1) #[.bool yk1, .slice yo1 yl1 yc1, .slice yo2 yl2 yc2, .bool yk2, .slice yo3 yl3 yc3, .slice yo4 yl4 yc4]) := by
    intro wx hg
    rw [hW] at hg
    have h0 := (boxNew' (w.alloc (Obj.cells #[.bool xk1, .slice xo1 xl1 xc1, .slice xo2 xl2 xc2, .bool xk2, .slice xo3 xl3 xc3, .slice xo4 xl4 xc4] 119)) #[.bool yk1, .slice yo1 yl1 yc1, .slice yo2 yl2 yc2, .bool yk2, .slice yo3 yl3 yc3, .slice yo4 yl4 yc4] 119 (w.heap.size + 1) (by simp))
    exact ((h0).keep0 (gr_alloc (gr_refl _ _) _)).keep0 hg
  have BR : Hid (∀ wx, W.grownBy wx none → BoxC wx (w.heap.size + 1 + 1) #[.bool false, .slice none 0 0, .slice none 0 0, .bool false, .slice none 0 0, .slice none 0 0]) := by
    intro wx hg
    rw [hW] at hg
    have h0 := (boxNew' ((w.alloc (Obj.cells #[.bool xk1, .slice xo1 xl1 xc1, .slice xo2 xl2 xc2, .bool xk2, .slice xo3 xl3 xc3, .slice xo4 xl4 xc4] 119)).alloc (Obj.cells #[.bool yk1, .slice yo1 yl1 yc1, .slice yo2 yl2 yc2, .bool yk2, .slice yo3 yl3 yc3, .slice yo4 yl4 yc4] 119)) #[.bool false, .slice none 0 0, .slice none 0 0, .bool false, .slice none 0 0, .slice none 0 0] 119 (w.heap.size + 1 + 1) (by simp))
    exact (h0).keep0 hg
  have hne2_0 : ¬ w.heap.size + 1 + 1 = w.heap.size := by omega
  have hnf2_0 : ¬ w.heap.size = w.heap.size + 1 + 1 := by omega
  have hne2_1 : ¬ w.heap.size + 1 + 1 = w.heap.size + 1 := by omega
  have hnf2_1 : ¬ w.heap.size + 1 = w.heap.size + 1 + 1 := by omega
  by_cases hn : r = 0 ∧ s = 0
  · have hd : decide (r = 0 ∧ s = 0) = true := decide_eq_true hn
    obtain ⟨y0, y1, y2, y3, y4, y5, yf0, yf1, yf2, yf3, yf4, yf5⟩ := (BY.out W (gr_refl _ _)).c6
    go_enter Tryz.func150, Tryz.ntmps150
    go_wp2_with fail
    rw [← hW]
    clear hW
    refine (zIsZero_at _ r s M W (HY.out.keep0 GW.out)).mono ?_
    rintro e w1 ⟨rfl, g1⟩
    rw [hd]
    clear hd
    obtain ⟨r0, r1, r2, r3, r4, r5, rf0, rf1, rf2, rf3, rf4, rf5⟩ := (BR.out w1 g1).c6
    obtain ⟨p0, p1, p2, p3, p4, p5, pf0, pf1, pf2, pf3, pf4, pf5⟩ := (BX.out w1 g1).c6
    obtain ⟨q0, q1, q2, q3, q4, q5, qf0, qf1, qf2, qf3, qf4, qf5⟩ := (BY.out w1 g1).c6
    have G1 := hide g1
    have BR1 := hide (BR.out w1 g1)
    clear g1
    go_wp2
    refine bodyPost_ret (v := .tuple #[.agg #[.bool false, .slice none 0 0, .slice none 0 0, .bool false, .slice none 0 0, .slice none 0 0], .int .i64 9]) (by first | (simp [results, Tryz.results150, go_sem, r0, r1, r2, r3, r4, r5]; done) | (simp [results, Tryz.results150, go_sem, r0, r1, r2, r3, r4, r5]; rfl)) rfl ?_
    exact ⟨gr_set (gr_set (gr_set (gr_set (gr_set (gr_set (gr_none GW.out G1.out) _ _ (by first | (simp; done) | (simp; omega))) _ _ (by first | (simp; done) | (simp; omega))) _ _ (by first | (simp; done) | (simp; omega))) _ _ (by first | (simp; done) | (simp; omega))) _ _ (by first | (simp; done) | (simp; omega))) _ _ (by first | (simp; done) | (simp; omega)), .inl ⟨hn, rfl⟩⟩
  · have hd : decide (r = 0 ∧ s = 0) = false := decide_eq_false hn
    obtain ⟨y0, y1, y2, y3, y4, y5, yf0, yf1, yf2, yf3, yf4, yf5⟩ := (BY.out W (gr_refl _ _)).c6
    go_enter Tryz.func150, Tryz.ntmps150
    go_wp2_with fail
    rw [← hW]
    clear hW
    refine (zIsZero_at _ r s M W (HY.out.keep0 GW.out)).mono ?_
    rintro e w1 ⟨rfl, g1⟩
    rw [hd]
    clear hd
    obtain ⟨r0, r1, r2, r3, r4, r5, rf0, rf1, rf2, rf3, rf4, rf5⟩ := (BR.out w1 g1).c6
    obtain ⟨p0, p1, p2, p3, p4, p5, pf0, pf1, pf2, pf3, pf4, pf5⟩ := (BX.out w1 g1).c6
    obtain ⟨q0, q1, q2, q3, q4, q5, qf0, qf1, qf2, qf3, qf4, qf5⟩ := (BY.out w1 g1).c6
    have G1 := hide g1
    have BR1 := hide (BR.out w1 g1)
    clear g1
    go_wp2_with fail
    refine (zOver_at _ _ p q r s L M _ (HX.out.keep0 (gr_none GW.out G1.out)) (HY.out.keep0 (gr_none GW.out G1.out)) hn hl).mono ?_
    rintro e w2 ⟨v2, rfl, p2, g2⟩
    obtain ⟨ck1, co1, cl1, cc1, co2, cl2, cc2, ck2, co3, cl3, cc3, co4, cl4, cc4, rfl, _, _⟩ := p2.letters
    have P2 := hide p2
    have G2 := hide (gr_none G1.out g2)
    have BR2 := hide (BR1.out.keep0 g2)
    clear p2 g2
    obtain ⟨t0, t1, t2, t3, t4, t5, tf0, tf1, tf2, tf3, tf4, tf5⟩ := BR2.out.c6
    go_wp2
    refine bodyPost_ret (v := .tuple #[.agg #[.bool ck1, .slice co1 cl1 cc1, .slice co2 cl2 cc2, .bool ck2, .slice co3 cl3 cc3, .slice co4 cl4 cc4], .int .i64 0]) (by first | (simp [results, Tryz.results150, go_sem, t0, t1, t2, t3, t4, t5]; done) | (simp [results, Tryz.results150, go_sem, t0, t1, t2, t3, t4, t5]; rfl)) rfl ?_
    exact ⟨gr_set (gr_set (gr_set (gr_set (gr_set (gr_set (gr_none GW.out G2.out) _ _ (by first | (simp; done) | (simp; omega))) _ _ (by first | (simp; done) | (simp; omega))) _ _ (by first | (simp; done) | (simp; omega))) _ _ (by first | (simp; done) | (simp; omega))) _ _ (by first | (simp; done) | (simp; omega))) _ _ (by first | (simp; done) | (simp; omega)), .inr ⟨hn, _, rfl, P2.out.kept (BR2.out.kept6 _ _ _ _ _ _ (noWd6 _ _ _ _ _ _ _ _ _ _ _ _ _ _))⟩⟩
end Go.Proofs.YtdpagdlmpajjkafGreatDoor

namespace Go.Proofs.YtdpagdlmpajjkafGreatDoor
open Go.RowKit
set_option linter.unusedVariables false
set_option linter.unusedSimpArgs false
theorem ZQ.subz {w : World} {v : Value} {p q : Rat} {L : Nat} (h : ZQ w v p (q - 0) L) : ZQ w v p q L := by
  have e : q - 0 = q := by grind
  rw [e] at h
  exact h
theorem ZQ.addz {w : World} {v : Value} {p q : Rat} {L : Nat} (h : ZQ w v p (q + 0) L) : ZQ w v p q L := by
  have e : q + 0 = q := by grind
  rw [e] at h
  exact h
theorem ZQ.zadd {w : World} {v : Value} {p q : Rat} {L : Nat} (h : ZQ w v p (0 + q) L) : ZQ w v p q L := by
  have e : 0 + q = q := by grind
  rw [e] at h
  exact h
theorem ZQ.zsub {w : World} {v : Value} {p q : Rat} {L : Nat} (h : ZQ w v p (0 - q) L) : ZQ w v p (-q) L := by
  have e : 0 - q = -q := by grind
  rw [e] at h
  exact h
theorem ZQ.tim {w : World} {v : Value} {p q l : Rat} {L : Nat} (h : ZQ w v (p * l - q * 0) (p * 0 + q * l) L) : ZQ w v (p * l) (q * l) L := by
  have e1 : p * l - q * 0 = p * l := by grind
  have e2 : p * 0 + q * l = q * l := by grind
  rw [e1, e2] at h
  exact h
theorem ZcE.good {w : World} {bad : Prop} {p q : Rat} {L : Nat} {e : Ending} {w' : World} (h : ZcE w bad p q L e w') (hb : ¬ bad) : ∃ v, e = .returned (.tuple #[v, .int .i64 0]) ∧ ZQ w' v p q L ∧ w.grownBy w' none := by
  obtain ⟨g, ⟨h1, _⟩ | ⟨_, v, h2, h3⟩⟩ := h
  · exact absurd h1 hb
  · exact ⟨v, h2, h3, g⟩
theorem ZcE.ill {w : World} {bad : Prop} {p q : Rat} {L : Nat} {e : Ending} {w' : World} (h : ZcE w bad p q L e w') (hb : bad) : e = .returned (.tuple #[.agg #[.bool false, .slice none 0 0, .slice none 0 0, .bool false, .slice none 0 0, .slice none 0 0], .int .i64 9]) ∧ w.grownBy w' none := by
  obtain ⟨g, ⟨_, h1⟩ | ⟨h1, _⟩⟩ := h
  · exact ⟨h1, g⟩
  · exact absurd hb h1
set_option maxHeartbeats 16000000 in
set_option maxRecDepth 10000 in
theorem back_at (x y : Value) (p q l : Rat) (L M : Nat) (w : World) (hx : ZQ w x p q L) (hy : FQ w y l M) (hl : L + M ≤ 100000000000) :
    Calls Tryz.prog 74 #[x, y] w fun e w' => ZcE w (p + l = 0 ∧ q = 0) (cdR (p - l) q (p + l) q) (cdI (p - l) q (p + l) q) (8 * (L + M) + 26) e w' := by
  obtain ⟨xk1, xo1, xl1, xc1, xo2, xl2, xc2, xk2, xo3, xl3, xc3, xo4, xl4, xc4, rfl, _, _⟩ := hx.letters
  obtain ⟨lk, lo1, ll1, lc1, lo2, ll2, lc2, rfl⟩ := hy.letters
  have HX := hide hx
  have HL := hide hy
  clear hx hy
  obtain ⟨W, hW⟩ : ∃ W, W = (((w.alloc (Obj.cells #[.bool xk1, .slice xo1 xl1 xc1, .slice xo2 xl2 xc2, .bool xk2, .slice xo3 xl3 xc3, .slice xo4 xl4 xc4] 119)).alloc (Obj.cells #[.bool lk, .slice lo1 ll1 lc1, .slice lo2 ll2 lc2] 114)).alloc (Obj.cells #[.bool false, .slice none 0 0, .slice none 0 0, .bool false, .slice none 0 0, .slice none 0 0] 119)) := ⟨_, rfl⟩
  have GW : Hid (w.grownBy W none) := by rw [hW]; exact gr_alloc (gr_alloc (gr_alloc (gr_refl _ _) _) _) _
  have BZ : Hid (∀ wx, W.grownBy wx none → BoxC wx (w.heap.size) #[.bool xk1, .slice xo1 xl1 xc1, .slice xo2 xl2 xc2, .bool xk2, .slice xo3 xl3 xc3, .slice xo4 xl4 xc4]) := by
    intro wx hg
    rw [hW] at hg
    have h0 := (boxNew' w #[.bool xk1, .slice xo1 xl1 xc1, .slice xo2 xl2 xc2, .bool xk2, .slice xo3 xl3 xc3, .slice xo4 xl4 xc4] 119 (w.heap.size) (by simp))
    exact (((h0).keep0 (gr_alloc (gr_refl _ _) _)).keep0 (gr_alloc (gr_refl _ _) _)).keep0 hg
  have BLn : Hid (∀ wx, W.grownBy wx none → BoxC wx (w.heap.size + 1) #[.bool lk, .slice lo1 ll1 lc1, .slice lo2 ll2 lc2]) := by
    intro wx hg
    rw [hW] at hg
    have h0 := (boxNew' (w.alloc (Obj.cells #[.bool xk1, .slice xo1 xl1 xc1, .slice xo2 xl2 xc2, .bool xk2, .slice xo3 xl3 xc3, .slice xo4 xl4 xc4] 119)) #[.bool lk, .slice lo1 ll1 lc1, .slice lo2 ll2 lc2] 114 (w.heap.size + 1) (by simp))
    exact ((h0).keep0 (gr_alloc (gr_refl _ _) _)).keep0 hg
  have BR : Hid (∀ wx, W.grownBy wx none → BoxC wx (w.heap.size + 1 + 1) #[.bool false, .slice none 0 0, .slice none 0 0, .bool false, .slice none 0 0, .slice none 0 0]) := by
    intro wx hg
    rw [hW] at hg
    have h0 := (boxNew' ((w.alloc (Obj.cells #[.bool xk1, .slice xo1 xl1 xc1, .slice xo2 xl2 xc2, .bool xk2, .slice xo3 xl3 xc3, .slice xo4 xl4 xc4] 119)).alloc (Obj.cells #[.bool lk, .slice lo1 ll1 lc1, .slice lo2 ll2 lc2] 114)) #[.bool false, .slice none 0 0, .slice none 0 0, .bool false, .slice none 0 0, .slice none 0 0] 119 (w.heap.size + 1 + 1) (by simp))
    exact (h0).keep0 hg
  have hne2_0 : ¬ w.heap.size + 1 + 1 = w.heap.size := by omega
  have hnf2_0 : ¬ w.heap.size = w.heap.size + 1 + 1 := by omega
  have hne2_1 : ¬ w.heap.size + 1 + 1 = w.heap.size + 1 := by omega
  have hnf2_1 : ¬ w.heap.size + 1 = w.heap.size + 1 + 1 := by omega
  have HWS : Hid (w.heap.size + 1 + 1 + 1 ≤ W.heap.size) := by unfold Hid; rw [hW]; simp
  by_cases hn : p + l = 0 ∧ q = 0
  · have HB := hide hn
    go_enter Tryz.func74, Tryz.ntmps74
    go_upto_region 1 with fail
    rw [← hW]
    clear hW
    obtain ⟨l0, l1, l2, lf0, lf1, lf2⟩ := (BLn.out W (gr_refl _ _)).c3
    go_upto_region 2 with fail
    obtain ⟨W2, hW2⟩ : ∃ wz, wz = (W.alloc (Obj.cells #[.bool lk, .slice lo1 ll1 lc1, .slice lo2 ll2 lc2, .bool false, .slice none 0 0, .slice none 0 0] 119)) := ⟨_, rfl⟩
    have GW2 : Hid (W.grownBy W2 none) := by rw [hW2]; exact gr_alloc (gr_refl _ _) _
    have BO : Hid (∀ wx, W2.grownBy wx none → BoxC wx W.heap.size #[.bool lk, .slice lo1 ll1 lc1, .slice lo2 ll2 lc2, .bool false, .slice none 0 0, .slice none 0 0]) := by
      intro wx g
      rw [hW2] at g
      exact (boxNew W #[.bool lk, .slice lo1 ll1 lc1, .slice lo2 ll2 lc2, .bool false, .slice none 0 0, .slice none 0 0] 119).keep0 g
    rw [← hW2]
    clear hW2
    have GA := hide (gr_none GW.out GW2.out)
    have hle : w.heap.size + 1 + 1 + 1 ≤ W.heap.size := HWS.out
    have hna : ¬ W.heap.size = w.heap.size + 1 + 1 := by omega
    have hnb : ¬ w.heap.size + 1 + 1 = W.heap.size := by omega
    have B2Z : Hid (∀ wx, W2.grownBy wx none → BoxC wx (w.heap.size) #[.bool xk1, .slice xo1 xl1 xc1, .slice xo2 xl2 xc2, .bool xk2, .slice xo3 xl3 xc3, .slice xo4 xl4 xc4]) := fun wx g => BZ.out wx (gr_none GW2.out g)
    have B2R : Hid (∀ wx, W2.grownBy wx none → BoxC wx (w.heap.size + 1 + 1) #[.bool false, .slice none 0 0, .slice none 0 0, .bool false, .slice none 0 0, .slice none 0 0]) := fun wx g => BR.out wx (gr_none GW2.out g)
    have GG : W2.grownBy W2 none := gr_refl _ _
    clear l0 l1 l2 lf0 lf1 lf2
    obtain ⟨z0, z1, z2, z3, z4, z5, zf0, zf1, zf2, zf3, zf4, zf5⟩ := (B2Z.out W2 GG).c6
    obtain ⟨o0, o1, o2, o3, o4, o5, of0, of1, of2, of3, of4, of5⟩ := (BO.out W2 GG).c6
    go_region_held3 (fun w' => w'.cell? ⟨w.heap.size, 0, none⟩ = some (.bool xk1) ∧ w'.cell? ⟨w.heap.size, 1, none⟩ = some (.slice xo1 xl1 xc1) ∧ w'.cell? ⟨w.heap.size, 2, none⟩ = some (.slice xo2 xl2 xc2) ∧ w'.cell? ⟨w.heap.size, 3, none⟩ = some (.bool xk2) ∧ w'.cell? ⟨w.heap.size, 4, none⟩ = some (.slice xo3 xl3 xc3) ∧ w'.cell? ⟨w.heap.size, 5, none⟩ = some (.slice xo4 xl4 xc4) ∧ w'.cell? ⟨W.heap.size, 0, none⟩ = some (.bool lk) ∧ w'.cell? ⟨W.heap.size, 1, none⟩ = some (.slice lo1 ll1 lc1) ∧ w'.cell? ⟨W.heap.size, 2, none⟩ = some (.slice lo2 ll2 lc2) ∧ w'.cell? ⟨W.heap.size, 3, none⟩ = some (.bool false) ∧ w'.cell? ⟨W.heap.size, 4, none⟩ = some (.slice none 0 0) ∧ w'.cell? ⟨W.heap.size, 5, none⟩ = some (.slice none 0 0)) (go_keep)
      (first | (go_at_call 151; refine (zMinus_at _ _ p q l 0 L M _ (HX.out.keep0 (gr_none GA.out (by first | exact gr_none GG (gr_d _) | exact gr_none GG gr_d1 | exact GG | exact gr_alloc GG _ | exact gr_alloc (gr_none GG gr_d1) _ | exact gr_alloc (gr_none GG (gr_d _)) _))) (ZQ.real (HL.out.keep0 (gr_none GA.out (by first | exact gr_none GG (gr_d _) | exact gr_none GG gr_d1 | exact GG | exact gr_alloc GG _ | exact gr_alloc (gr_none GG gr_d1) _ | exact gr_alloc (gr_none GG (gr_d _)) _)))) (by omega)).mono ?_; rintro e wa ⟨va, rfl, pa, ga⟩; obtain ⟨ak1, ao1, al1, ac1, ao2, al2, ac2, ak2, ao3, al3, ac3, ao4, al4, ac4, rfl, _, _⟩ := pa.letters; have KP := gr_none (by first | exact gr_d _ | exact gr_d1 | exact gr_alloc gr_d1 _ | exact gr_alloc (gr_d _) _ | exact gr_alloc (gr_refl _ _) _ | exact gr_refl _ _) ga; have GG : W2.grownBy wa none := gr_none (by first | exact gr_none GG (gr_d _) | exact gr_none GG gr_d1 | exact GG | exact gr_alloc GG _ | exact gr_alloc (gr_none GG gr_d1) _ | exact gr_alloc (gr_none GG (gr_d _)) _) ga; clear KP; have pa := pa.subz; obtain ⟨a_z0, a_z1, a_z2, a_z3, a_z4, a_z5, a_zf0, a_zf1, a_zf2, a_zf3, a_zf4, a_zf5⟩ := (B2Z.out wa GG).c6; obtain ⟨a_o0, a_o1, a_o2, a_o3, a_o4, a_o5, a_of0, a_of1, a_of2, a_of3, a_of4, a_of5⟩ := (BO.out wa GG).c6; obtain ⟨a_r0, a_r1, a_r2, a_r3, a_r4, a_r5, a_rf0, a_rf1, a_rf2, a_rf3, a_rf4, a_rf5⟩ := (B2R.out wa GG).c6) | (go_at_call 152; refine (zPlus_at _ _ p q l 0 L M _ (HX.out.keep0 (gr_none GA.out (by first | exact gr_none GG (gr_d _) | exact gr_none GG gr_d1 | exact GG | exact gr_alloc GG _ | exact gr_alloc (gr_none GG gr_d1) _ | exact gr_alloc (gr_none GG (gr_d _)) _))) (ZQ.real (HL.out.keep0 (gr_none GA.out (by first | exact gr_none GG (gr_d _) | exact gr_none GG gr_d1 | exact GG | exact gr_alloc GG _ | exact gr_alloc (gr_none GG gr_d1) _ | exact gr_alloc (gr_none GG (gr_d _)) _)))) (by omega)).mono ?_; rintro e wb ⟨vb, rfl, pb, gb⟩; obtain ⟨bk1, bo1, bl1, bc1, bo2, bl2, bc2, bk2, bo3, bl3, bc3, bo4, bl4, bc4, rfl, _, _⟩ := pb.letters; have KP := gr_none (by first | exact gr_d _ | exact gr_d1 | exact gr_alloc gr_d1 _ | exact gr_alloc (gr_d _) _ | exact gr_alloc (gr_refl _ _) _ | exact gr_refl _ _) gb; have GG : W2.grownBy wb none := gr_none (by first | exact gr_none GG (gr_d _) | exact gr_none GG gr_d1 | exact GG | exact gr_alloc GG _ | exact gr_alloc (gr_none GG gr_d1) _ | exact gr_alloc (gr_none GG (gr_d _)) _) gb; (try have pa := pa.keep0 KP); clear KP; have pb := pb.addz; obtain ⟨b_z0, b_z1, b_z2, b_z3, b_z4, b_z5, b_zf0, b_zf1, b_zf2, b_zf3, b_zf4, b_zf5⟩ := (B2Z.out wb GG).c6; obtain ⟨b_o0, b_o1, b_o2, b_o3, b_o4, b_o5, b_of0, b_of1, b_of2, b_of3, b_of4, b_of5⟩ := (BO.out wb GG).c6; obtain ⟨b_r0, b_r1, b_r2, b_r3, b_r4, b_r5, b_rf0, b_rf1, b_rf2, b_rf3, b_rf4, b_rf5⟩ := (B2R.out wb GG).c6) | (go_at_call 150; refine (lOver_at _ _ (p - l) q (p + l) q (L + M + 2) (L + M + 2) _ (pa.keep0 (by first | exact gr_d _ | exact gr_d1 | exact gr_alloc gr_d1 _ | exact gr_alloc (gr_d _) _ | exact gr_alloc (gr_refl _ _) _ | exact gr_refl _ _)) (pb.keep0 (by first | exact gr_d _ | exact gr_d1 | exact gr_alloc gr_d1 _ | exact gr_alloc (gr_d _) _ | exact gr_alloc (gr_refl _ _) _ | exact gr_refl _ _)) (by omega)).mono ?_; rintro e wc hc; obtain ⟨rfl, gc⟩ := hc.ill HB.out; have KP := gr_none (by first | exact gr_d _ | exact gr_d1 | exact gr_alloc gr_d1 _ | exact gr_alloc (gr_d _) _ | exact gr_alloc (gr_refl _ _) _ | exact gr_refl _ _) gc; have GG : W2.grownBy wc none := gr_none (by first | exact gr_none GG (gr_d _) | exact gr_none GG gr_d1 | exact GG | exact gr_alloc GG _ | exact gr_alloc (gr_none GG gr_d1) _ | exact gr_alloc (gr_none GG (gr_d _)) _) gc; clear KP; obtain ⟨c_z0, c_z1, c_z2, c_z3, c_z4, c_z5, c_zf0, c_zf1, c_zf2, c_zf3, c_zf4, c_zf5⟩ := (B2Z.out wc GG).c6; obtain ⟨c_o0, c_o1, c_o2, c_o3, c_o4, c_o5, c_of0, c_of1, c_of2, c_of3, c_of4, c_of5⟩ := (BO.out wc GG).c6; obtain ⟨c_r0, c_r1, c_r2, c_r3, c_r4, c_r5, c_rf0, c_rf1, c_rf2, c_rf3, c_rf4, c_rf5⟩ := (B2R.out wc GG).c6))
    all_goals
      have HGd := hide GG
      go_wp2
      refine bodyPost_ret (v := .tuple #[.agg #[.bool false, .slice none 0 0, .slice none 0 0, .bool false, .slice none 0 0, .slice none 0 0], .int .i64 9]) (by first | (simp [results, Tryz.results74, go_sem, c_r0, c_r1, c_r2, c_r3, c_r4, c_r5]; done) | (simp [results, Tryz.results74, go_sem, c_r0, c_r1, c_r2, c_r3, c_r4, c_r5]; rfl)) rfl ?_
      exact ⟨gr_set (gr_set (gr_set (gr_set (gr_set (gr_set (gr_none GA.out HGd.out) _ _ (by first | (simp; done) | (simp; omega))) _ _ (by first | (simp; done) | (simp; omega))) _ _ (by first | (simp; done) | (simp; omega))) _ _ (by first | (simp; done) | (simp; omega))) _ _ (by first | (simp; done) | (simp; omega))) _ _ (by first | (simp; done) | (simp; omega)), .inl ⟨HB.out, rfl⟩⟩
  · have HB := hide hn
    go_enter Tryz.func74, Tryz.ntmps74
    go_upto_region 1 with fail
    rw [← hW]
    clear hW
    obtain ⟨l0, l1, l2, lf0, lf1, lf2⟩ := (BLn.out W (gr_refl _ _)).c3
    go_upto_region 2 with fail
    obtain ⟨W2, hW2⟩ : ∃ wz, wz = (W.alloc (Obj.cells #[.bool lk, .slice lo1 ll1 lc1, .slice lo2 ll2 lc2, .bool false, .slice none 0 0, .slice none 0 0] 119)) := ⟨_, rfl⟩
    have GW2 : Hid (W.grownBy W2 none) := by rw [hW2]; exact gr_alloc (gr_refl _ _) _
    have BO : Hid (∀ wx, W2.grownBy wx none → BoxC wx W.heap.size #[.bool lk, .slice lo1 ll1 lc1, .slice lo2 ll2 lc2, .bool false, .slice none 0 0, .slice none 0 0]) := by
      intro wx g
      rw [hW2] at g
      exact (boxNew W #[.bool lk, .slice lo1 ll1 lc1, .slice lo2 ll2 lc2, .bool false, .slice none 0 0, .slice none 0 0] 119).keep0 g
    rw [← hW2]
    clear hW2
    have GA := hide (gr_none GW.out GW2.out)
    have hle : w.heap.size + 1 + 1 + 1 ≤ W.heap.size := HWS.out
    have hna : ¬ W.heap.size = w.heap.size + 1 + 1 := by omega
    have hnb : ¬ w.heap.size + 1 + 1 = W.heap.size := by omega
    have B2Z : Hid (∀ wx, W2.grownBy wx none → BoxC wx (w.heap.size) #[.bool xk1, .slice xo1 xl1 xc1, .slice xo2 xl2 xc2, .bool xk2, .slice xo3 xl3 xc3, .slice xo4 xl4 xc4]) := fun wx g => BZ.out wx (gr_none GW2.out g)
    have B2R : Hid (∀ wx, W2.grownBy wx none → BoxC wx (w.heap.size + 1 + 1) #[.bool false, .slice none 0 0, .slice none 0 0, .bool false, .slice none 0 0, .slice none 0 0]) := fun wx g => BR.out wx (gr_none GW2.out g)
    have GG : W2.grownBy W2 none := gr_refl _ _
    clear l0 l1 l2 lf0 lf1 lf2
    obtain ⟨z0, z1, z2, z3, z4, z5, zf0, zf1, zf2, zf3, zf4, zf5⟩ := (B2Z.out W2 GG).c6
    obtain ⟨o0, o1, o2, o3, o4, o5, of0, of1, of2, of3, of4, of5⟩ := (BO.out W2 GG).c6
    go_region_held3 (fun w' => w'.cell? ⟨w.heap.size, 0, none⟩ = some (.bool xk1) ∧ w'.cell? ⟨w.heap.size, 1, none⟩ = some (.slice xo1 xl1 xc1) ∧ w'.cell? ⟨w.heap.size, 2, none⟩ = some (.slice xo2 xl2 xc2) ∧ w'.cell? ⟨w.heap.size, 3, none⟩ = some (.bool xk2) ∧ w'.cell? ⟨w.heap.size, 4, none⟩ = some (.slice xo3 xl3 xc3) ∧ w'.cell? ⟨w.heap.size, 5, none⟩ = some (.slice xo4 xl4 xc4) ∧ w'.cell? ⟨W.heap.size, 0, none⟩ = some (.bool lk) ∧ w'.cell? ⟨W.heap.size, 1, none⟩ = some (.slice lo1 ll1 lc1) ∧ w'.cell? ⟨W.heap.size, 2, none⟩ = some (.slice lo2 ll2 lc2) ∧ w'.cell? ⟨W.heap.size, 3, none⟩ = some (.bool false) ∧ w'.cell? ⟨W.heap.size, 4, none⟩ = some (.slice none 0 0) ∧ w'.cell? ⟨W.heap.size, 5, none⟩ = some (.slice none 0 0)) (go_keep)
      (first | (go_at_call 151; refine (zMinus_at _ _ p q l 0 L M _ (HX.out.keep0 (gr_none GA.out (by first | exact gr_none GG (gr_d _) | exact gr_none GG gr_d1 | exact GG | exact gr_alloc GG _ | exact gr_alloc (gr_none GG gr_d1) _ | exact gr_alloc (gr_none GG (gr_d _)) _))) (ZQ.real (HL.out.keep0 (gr_none GA.out (by first | exact gr_none GG (gr_d _) | exact gr_none GG gr_d1 | exact GG | exact gr_alloc GG _ | exact gr_alloc (gr_none GG gr_d1) _ | exact gr_alloc (gr_none GG (gr_d _)) _)))) (by omega)).mono ?_; rintro e wa ⟨va, rfl, pa, ga⟩; obtain ⟨ak1, ao1, al1, ac1, ao2, al2, ac2, ak2, ao3, al3, ac3, ao4, al4, ac4, rfl, _, _⟩ := pa.letters; have KP := gr_none (by first | exact gr_d _ | exact gr_d1 | exact gr_alloc gr_d1 _ | exact gr_alloc (gr_d _) _ | exact gr_alloc (gr_refl _ _) _ | exact gr_refl _ _) ga; have GG : W2.grownBy wa none := gr_none (by first | exact gr_none GG (gr_d _) | exact gr_none GG gr_d1 | exact GG | exact gr_alloc GG _ | exact gr_alloc (gr_none GG gr_d1) _ | exact gr_alloc (gr_none GG (gr_d _)) _) ga; clear KP; have pa := pa.subz; obtain ⟨a_z0, a_z1, a_z2, a_z3, a_z4, a_z5, a_zf0, a_zf1, a_zf2, a_zf3, a_zf4, a_zf5⟩ := (B2Z.out wa GG).c6; obtain ⟨a_o0, a_o1, a_o2, a_o3, a_o4, a_o5, a_of0, a_of1, a_of2, a_of3, a_of4, a_of5⟩ := (BO.out wa GG).c6; obtain ⟨a_r0, a_r1, a_r2, a_r3, a_r4, a_r5, a_rf0, a_rf1, a_rf2, a_rf3, a_rf4, a_rf5⟩ := (B2R.out wa GG).c6) | (go_at_call 152; refine (zPlus_at _ _ p q l 0 L M _ (HX.out.keep0 (gr_none GA.out (by first | exact gr_none GG (gr_d _) | exact gr_none GG gr_d1 | exact GG | exact gr_alloc GG _ | exact gr_alloc (gr_none GG gr_d1) _ | exact gr_alloc (gr_none GG (gr_d _)) _))) (ZQ.real (HL.out.keep0 (gr_none GA.out (by first | exact gr_none GG (gr_d _) | exact gr_none GG gr_d1 | exact GG | exact gr_alloc GG _ | exact gr_alloc (gr_none GG gr_d1) _ | exact gr_alloc (gr_none GG (gr_d _)) _)))) (by omega)).mono ?_; rintro e wb ⟨vb, rfl, pb, gb⟩; obtain ⟨bk1, bo1, bl1, bc1, bo2, bl2, bc2, bk2, bo3, bl3, bc3, bo4, bl4, bc4, rfl, _, _⟩ := pb.letters; have KP := gr_none (by first | exact gr_d _ | exact gr_d1 | exact gr_alloc gr_d1 _ | exact gr_alloc (gr_d _) _ | exact gr_alloc (gr_refl _ _) _ | exact gr_refl _ _) gb; have GG : W2.grownBy wb none := gr_none (by first | exact gr_none GG (gr_d _) | exact gr_none GG gr_d1 | exact GG | exact gr_alloc GG _ | exact gr_alloc (gr_none GG gr_d1) _ | exact gr_alloc (gr_none GG (gr_d _)) _) gb; (try have pa := pa.keep0 KP); clear KP; have pb := pb.addz; obtain ⟨b_z0, b_z1, b_z2, b_z3, b_z4, b_z5, b_zf0, b_zf1, b_zf2, b_zf3, b_zf4, b_zf5⟩ := (B2Z.out wb GG).c6; obtain ⟨b_o0, b_o1, b_o2, b_o3, b_o4, b_o5, b_of0, b_of1, b_of2, b_of3, b_of4, b_of5⟩ := (BO.out wb GG).c6; obtain ⟨b_r0, b_r1, b_r2, b_r3, b_r4, b_r5, b_rf0, b_rf1, b_rf2, b_rf3, b_rf4, b_rf5⟩ := (B2R.out wb GG).c6) | (go_at_call 150; refine (lOver_at _ _ (p - l) q (p + l) q (L + M + 2) (L + M + 2) _ (pa.keep0 (by first | exact gr_d _ | exact gr_d1 | exact gr_alloc gr_d1 _ | exact gr_alloc (gr_d _) _ | exact gr_alloc (gr_refl _ _) _ | exact gr_refl _ _)) (pb.keep0 (by first | exact gr_d _ | exact gr_d1 | exact gr_alloc gr_d1 _ | exact gr_alloc (gr_d _) _ | exact gr_alloc (gr_refl _ _) _ | exact gr_refl _ _)) (by omega)).mono ?_; rintro e wc hc; obtain ⟨vc, rfl, pc, gc⟩ := hc.good HB.out; obtain ⟨ck1, co1, cl1, cc1, co2, cl2, cc2, ck2, co3, cl3, cc3, co4, cl4, cc4, rfl, _, _⟩ := pc.letters; have KP := gr_none (by first | exact gr_d _ | exact gr_d1 | exact gr_alloc gr_d1 _ | exact gr_alloc (gr_d _) _ | exact gr_alloc (gr_refl _ _) _ | exact gr_refl _ _) gc; have GG : W2.grownBy wc none := gr_none (by first | exact gr_none GG (gr_d _) | exact gr_none GG gr_d1 | exact GG | exact gr_alloc GG _ | exact gr_alloc (gr_none GG gr_d1) _ | exact gr_alloc (gr_none GG (gr_d _)) _) gc; clear KP; obtain ⟨c_z0, c_z1, c_z2, c_z3, c_z4, c_z5, c_zf0, c_zf1, c_zf2, c_zf3, c_zf4, c_zf5⟩ := (B2Z.out wc GG).c6; obtain ⟨c_o0, c_o1, c_o2, c_o3, c_o4, c_o5, c_of0, c_of1, c_of2, c_of3, c_of4, c_of5⟩ := (BO.out wc GG).c6; obtain ⟨c_r0, c_r1, c_r2, c_r3, c_r4, c_r5, c_rf0, c_rf1, c_rf2, c_rf3, c_rf4, c_rf5⟩ := (B2R.out wc GG).c6))
    all_goals
      have HGd := hide GG
      have PC := hide pc
      clear pc
      go_wp2
      refine bodyPost_ret (v := .tuple #[.agg #[.bool ck1, .slice co1 cl1 cc1, .slice co2 cl2 cc2, .bool ck2, .slice co3 cl3 cc3, .slice co4 cl4 cc4], .int .i64 0]) (by first | (simp [results, Tryz.results74, go_sem, c_r0, c_r1, c_r2, c_r3, c_r4, c_r5]; done) | (simp [results, Tryz.results74, go_sem, c_r0, c_r1, c_r2, c_r3, c_r4, c_r5]; rfl)) rfl ?_
      exact ⟨gr_set (gr_set (gr_set (gr_set (gr_set (gr_set (gr_none GA.out HGd.out) _ _ (by first | (simp; done) | (simp; omega))) _ _ (by first | (simp; done) | (simp; omega))) _ _ (by first | (simp; done) | (simp; omega))) _ _ (by first | (simp; done) | (simp; omega))) _ _ (by first | (simp; done) | (simp; omega))) _ _ (by first | (simp; done) | (simp; omega)), .inr ⟨HB.out, _, rfl, ((PC.out.mono (show _ ≤ 8 * (L + M) + 26 by omega)).kept ((B2R.out _ HGd.out).kept6 _ _ _ _ _ _ (noWd6 _ _ _ _ _ _ _ _ _ _ _ _ _ _)))⟩⟩
set_option maxHeartbeats 8000000 in
theorem tell_ok (x : Value) (p q : Rat) (L : Nat) (w : World) (hx : ZQ w x p q L) (hL : L ≤ 100000000000) (ht : Tab10 w) :
    Calls Tryz.prog 73 #[x, .int .i64 0] w fun e w' => e = .returned (.tuple #[.agg #[.string ⟨(qtext p).toArray⟩, .string ⟨(qtext q).toArray⟩], .int .i64 0]) ∧ w.grownBy w' none := by
  obtain ⟨xk1, xo1, xl1, xc1, xo2, xl2, xc2, xk2, xo3, xl3, xc3, xo4, xl4, xc4, rfl, _, _⟩ := hx.letters
  have HX := hide hx
  have HT := hide ht
  clear hx ht
  obtain ⟨W, hW⟩ : ∃ W, W = ((w.alloc (Obj.cells #[.bool xk1, .slice xo1 xl1 xc1, .slice xo2 xl2 xc2, .bool xk2, .slice xo3 xl3 xc3, .slice xo4 xl4 xc4] 119)).alloc (Obj.cells #[.string ⟨#[]⟩, .string ⟨#[]⟩] 46)) := ⟨_, rfl⟩
  have GW : Hid (w.grownBy W none) := by rw [hW]; exact gr_alloc (gr_alloc (gr_refl _ _) _) _
  have BX : Hid (∀ wx, W.grownBy wx none → BoxC wx (w.heap.size) #[.bool xk1, .slice xo1 xl1 xc1, .slice xo2 xl2 xc2, .bool xk2, .slice xo3 xl3 xc3, .slice xo4 xl4 xc4]) := by
    intro wx hg
    rw [hW] at hg
    have h0 := (boxNew' w #[.bool xk1, .slice xo1 xl1 xc1, .slice xo2 xl2 xc2, .bool xk2, .slice xo3 xl3 xc3, .slice xo4 xl4 xc4] 119 (w.heap.size) (by simp))
    exact ((h0).keep0 (gr_alloc (gr_refl _ _) _)).keep0 hg
  have BR : Hid (∀ wx, W.grownBy wx none → BoxC wx (w.heap.size + 1) #[.string ⟨#[]⟩, .string ⟨#[]⟩]) := by
    intro wx hg
    rw [hW] at hg
    have h0 := (boxNew' (w.alloc (Obj.cells #[.bool xk1, .slice xo1 xl1 xc1, .slice xo2 xl2 xc2, .bool xk2, .slice xo3 xl3 xc3, .slice xo4 xl4 xc4] 119)) #[.string ⟨#[]⟩, .string ⟨#[]⟩] 46 (w.heap.size + 1) (by simp))
    exact (h0).keep0 hg
  have hne1_0 : ¬ w.heap.size + 1 = w.heap.size := by omega
  have hnf1_0 : ¬ w.heap.size = w.heap.size + 1 := by omega
  obtain ⟨x0, x1, x2, x3, x4, x5, xf0, xf1, xf2, xf3, xf4, xf5⟩ := (BX.out W (gr_refl _ _)).c6
  go_enter Tryz.func73, Tryz.ntmps73
  go_wp2_with fail
  rw [← hW]
  clear hW
  refine (zZ_at _ p q L W (HX.out.keep0 GW.out) hL (HT.out.keep0 GW.out)).mono ?_
  rintro e w1 ⟨rfl, g1⟩
  obtain ⟨r0, r1, rf0, rf1⟩ := (BR.out w1 g1).c2
  have G1 := hide g1
  clear g1
  go_wp2
  refine bodyPost_ret (v := .tuple #[.agg #[.string ⟨(qtext p).toArray⟩, .string ⟨(qtext q).toArray⟩], .int .i64 0]) (by first | (simp [results, Tryz.results73, go_sem, r0, r1]; done) | (simp [results, Tryz.results73, go_sem, r0, r1]; rfl)) rfl ?_
  exact ⟨rfl, gr_set (gr_set (gr_none GW.out G1.out) _ _ (by first | (simp; done) | (simp; omega))) _ _ (by first | (simp; done) | (simp; omega))⟩
set_option maxHeartbeats 8000000 in
theorem tell_bad (x : Value) (p q : Rat) (L : Nat) (c : Int) (w : World) (hx : ZQ w x p q L) (hc : c ≠ 0) :
    Calls Tryz.prog 73 #[x, .int .i64 c] w fun e w' => e = .returned (.tuple #[.agg #[.string ⟨#[]⟩, .string ⟨#[]⟩], .int .i64 c]) ∧ w.grownBy w' none := by
  obtain ⟨xk1, xo1, xl1, xc1, xo2, xl2, xc2, xk2, xo3, xl3, xc3, xo4, xl4, xc4, rfl, _, _⟩ := hx.letters
  have hcb : (c == 0) = false := beq_eq_false_iff_ne.2 hc
  clear hx hc
  obtain ⟨W, hW⟩ : ∃ W, W = ((w.alloc (Obj.cells #[.bool xk1, .slice xo1 xl1 xc1, .slice xo2 xl2 xc2, .bool xk2, .slice xo3 xl3 xc3, .slice xo4 xl4 xc4] 119)).alloc (Obj.cells #[.string ⟨#[]⟩, .string ⟨#[]⟩] 46)) := ⟨_, rfl⟩
  have GW : Hid (w.grownBy W none) := by rw [hW]; exact gr_alloc (gr_alloc (gr_refl _ _) _) _
  have BX : Hid (∀ wx, W.grownBy wx none → BoxC wx (w.heap.size) #[.bool xk1, .slice xo1 xl1 xc1, .slice xo2 xl2 xc2, .bool xk2, .slice xo3 xl3 xc3, .slice xo4 xl4 xc4]) := by
    intro wx hg
    rw [hW] at hg
    have h0 := (boxNew' w #[.bool xk1, .slice xo1 xl1 xc1, .slice xo2 xl2 xc2, .bool xk2, .slice xo3 xl3 xc3, .slice xo4 xl4 xc4] 119 (w.heap.size) (by simp))
    exact ((h0).keep0 (gr_alloc (gr_refl _ _) _)).keep0 hg
  have BR : Hid (∀ wx, W.grownBy wx none → BoxC wx (w.heap.size + 1) #[.string ⟨#[]⟩, .string ⟨#[]⟩]) := by
    intro wx hg
    rw [hW] at hg
    have h0 := (boxNew' (w.alloc (Obj.cells #[.bool xk1, .slice xo1 xl1 xc1, .slice xo2 xl2 xc2, .bool xk2, .slice xo3 xl3 xc3, .slice xo4 xl4 xc4] 119)) #[.string ⟨#[]⟩, .string ⟨#[]⟩] 46 (w.heap.size + 1) (by simp))
    exact (h0).keep0 hg
  have hne1_0 : ¬ w.heap.size + 1 = w.heap.size := by omega
  have hnf1_0 : ¬ w.heap.size = w.heap.size + 1 := by omega
  obtain ⟨r0, r1, rf0, rf1⟩ := (BR.out W (gr_refl _ _)).c2
  go_enter Tryz.func73, Tryz.ntmps73
  go_wp2
  first | rw [← hW] | skip
  refine bodyPost_ret (v := .tuple #[.agg #[.string ⟨#[]⟩, .string ⟨#[]⟩], .int .i64 c]) (by first | (simp [results, Tryz.results73, go_sem, r0, r1]; done) | (simp [results, Tryz.results73, go_sem, r0, r1]; rfl)) rfl ?_
  refine ⟨rfl, ?_⟩
  have GWo := GW.out
  first
    | exact GWo
    | exact gr_alloc (gr_alloc (gr_refl _ _) _) _
    | (refine gr_set (gr_set GWo _ _ ?_) _ _ ?_ <;> simp)
    | (refine gr_set (gr_set (gr_alloc (gr_alloc (gr_refl _ _) _) _) _ _ ?_) _ _ ?_ <;> simp)
end Go.Proofs.YtdpagdlmpajjkafGreatDoor
