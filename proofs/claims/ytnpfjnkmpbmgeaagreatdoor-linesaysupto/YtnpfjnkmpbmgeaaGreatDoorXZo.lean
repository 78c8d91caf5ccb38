/- frac: Z.IsZero, OfZ, Z.Z. -/
import Derived.Test.YtnpfjnkmpbmgeaaGreatDoorXZa
namespace Go.Proofs.YtnpfjnkmpbmgeaaGreatDoor
open Go.RowKit
set_option linter.unusedVariables false
set_option linter.unusedSimpArgs false
set_option maxHeartbeats 4000000 in
theorem zIsZero_at (x : Value) (p q : Rat) (L : Nat) (w : World) (hx : ZQ w x p q L) :
    Calls Tryz.prog 99 #[x] w fun e w' => e = .returned (.bool (decide (p = 0 ∧ q = 0))) ∧ w.grownBy w' none := by
  obtain ⟨xk1, xo1, xl1, xc1, xo2, xl2, xc2, xk2, xo3, xl3, xc3, xo4, xl4, xc4, rfl, hx1, hx2⟩ := hx.letters
  have HX1 := hide hx1
  have HX2 := hide hx2
  clear hx hx1 hx2
  obtain ⟨W, hW⟩ : ∃ W, W = (w.alloc (Obj.cells #[.bool xk1, .slice xo1 xl1 xc1, .slice xo2 xl2 xc2, .bool xk2, .slice xo3 xl3 xc3, .slice xo4 xl4 xc4] 55)) := ⟨_, rfl⟩
  have GW : Hid (w.grownBy W none) := by rw [hW]; exact gr_alloc (gr_refl _ _) _
  have BX : Hid (∀ wx, W.grownBy wx none → BoxC wx (w.heap.size) #[.bool xk1, .slice xo1 xl1 xc1, .slice xo2 xl2 xc2, .bool xk2, .slice xo3 xl3 xc3, .slice xo4 xl4 xc4]) := by
    intro wx hg
    rw [hW] at hg
    have h0 := (boxNew' w #[.bool xk1, .slice xo1 xl1 xc1, .slice xo2 xl2 xc2, .bool xk2, .slice xo3 xl3 xc3, .slice xo4 xl4 xc4] 55 (w.heap.size) (by simp))
    exact (h0).keep0 hg
  obtain ⟨x0, x1, x2, x3, x4, x5, xf0, xf1, xf2, xf3, xf4, xf5⟩ := (BX.out W (gr_refl _ _)).c6
  by_cases hp : p = 0
  · have hd : decide (p = 0) = true := decide_eq_true hp
    have he : Hid (decide (p = 0 ∧ q = 0) = decide (q = 0)) := by unfold Hid; rw [decide_eq_decide]; exact ⟨fun h => h.2, fun h => ⟨hp, h⟩⟩
    rw [he.out]
    clear hp
    go_enter Tryz.func99, Tryz.ntmps99
    go_wp2_with fail
    rw [← hW]
    refine (qIsZero_at _ p L _ (HX1.out.keep0 GW.out)).mono ?_
    rintro e w1 ⟨rfl, g1⟩
    rw [hd]
    obtain ⟨y0, y1, y2, y3, y4, y5, yf0, yf1, yf2, yf3, yf4, yf5⟩ := (BX.out w1 g1).c6
    have G1 := hide (gr_none GW.out g1)
    clear g1 hW hd
    go_wp2_with fail
    refine (qIsZero_at _ q L _ (HX2.out.keep0 G1.out)).mono ?_
    rintro e w2 ⟨rfl, g2⟩
    have G2 := hide (gr_none G1.out g2)
    clear g2
    go_wp2
    go_ret
    exact ⟨rfl, G2.out⟩
  · have hd : decide (p = 0) = false := decide_eq_false hp
    have he : Hid (decide (p = 0 ∧ q = 0) = false) := decide_eq_false (fun h => hp h.1)
    rw [he.out]
    clear hp
    go_enter Tryz.func99, Tryz.ntmps99
    go_wp2_with fail
    rw [← hW]
    refine (qIsZero_at _ p L _ (HX1.out.keep0 GW.out)).mono ?_
    rintro e w1 ⟨rfl, g1⟩
    rw [hd]
    have G1 := hide (gr_none GW.out g1)
    clear g1 hW hd
    go_wp2
    go_ret
    exact ⟨rfl, G1.out⟩
theorem gr_cell {w w' : World} {a : Addr} {v : Value} (g : w.grownBy w' none) (h : w.cell? a = some v) : w'.cell? a = some v := by
  rw [World.cell?_of_block (g.block a.block (cell_lt h) (by simp))]
  exact h
theorem qOf_fit (s : ByteArray) (m : Int) (L : Nat) (w : World) (hs : s.size ≤ 600000000) (hf : FitW L (ofR s.data.toList)) (hml : w.cell? ⟨0, 0, none⟩ = some (.int .i64 m)) :
    Calls Tryz.prog 44 #[.string s] w fun e w' => FQE w (ofR s.data.toList) L e w' := by
  refine (qOf_at s m w hs hml).mono ?_
  rintro e w' ⟨v, rfl, h1, h2⟩
  exact ⟨v, rfl, h1.tight hf, h2⟩
set_option maxHeartbeats 8000000 in
set_option maxRecDepth 10000 in
theorem ofZ_at (s t : ByteArray) (m : Int) (L : Nat) (w : World) (hs : s.size ≤ 600000000) (ht : t.size ≤ 600000000) (h1 : FitW L (ofR s.data.toList)) (h2 : FitW L (ofR t.data.toList)) (hml : w.cell? ⟨0, 0, none⟩ = some (.int .i64 m)) :
    Calls Tryz.prog 22 #[.agg #[.string s, .string t]] w fun e w' => ZQE w (ofR s.data.toList) (ofR t.data.toList) L e w' := by
  have HK1 := hide h1
  have HK2 := hide h2
  have HM := hide hml
  clear h1 h2 hml
  obtain ⟨W, hW⟩ : ∃ W, W = ((w.alloc (Obj.cells #[.string s, .string t] 24)).alloc (Obj.cells #[.bool false, .slice none 0 0, .slice none 0 0, .bool false, .slice none 0 0, .slice none 0 0] 55)) := ⟨_, rfl⟩
  have GW : Hid (w.grownBy W none) := by rw [hW]; exact gr_alloc (gr_alloc (gr_refl _ _) _) _
  have BX : Hid (∀ wx, W.grownBy wx none → BoxC wx (w.heap.size) #[.string s, .string t]) := by
    intro wx hg
    rw [hW] at hg
    have h0 := (boxNew' w #[.string s, .string t] 24 (w.heap.size) (by simp))
    exact ((h0).keep0 (gr_alloc (gr_refl _ _) _)).keep0 hg
  have BR : Hid (∀ wx, W.grownBy wx none → BoxC wx (w.heap.size + 1) #[.bool false, .slice none 0 0, .slice none 0 0, .bool false, .slice none 0 0, .slice none 0 0]) := by
    intro wx hg
    rw [hW] at hg
    have h0 := (boxNew' (w.alloc (Obj.cells #[.string s, .string t] 24)) #[.bool false, .slice none 0 0, .slice none 0 0, .bool false, .slice none 0 0, .slice none 0 0] 55 (w.heap.size + 1) (by simp))
    exact (h0).keep0 hg
  have hne1_0 : ¬ w.heap.size + 1 = w.heap.size := by omega
  have hnf1_0 : ¬ w.heap.size = w.heap.size + 1 := by omega
  obtain ⟨x0, x1, xf0, xf1⟩ := (BX.out W (gr_refl _ _)).c2
  go_enter Tryz.func22, Tryz.ntmps22
  go_wp2
  rw [← hW]
  clear hW
  have GG : W.grownBy W none := gr_refl _ _
  go_region_held3 (fun w' => w'.cell? ⟨w.heap.size, 0, none⟩ = some (.string s) ∧ w'.cell? ⟨w.heap.size, 1, none⟩ = some (.string t)) (go_keep)
    (first | (go_at_call_of 44 (Value.string s); refine (qOf_fit s m L _ hs HK1.out (by rw [gr_cell (gr_none GW.out (by first | exact gr_none GG (gr_d _) | exact gr_none GG gr_d1 | exact GG)) HM.out])).mono ?_; rintro e wa ⟨va, rfl, pa, ga⟩; obtain ⟨ak, ao1, al1, ac1, ao2, al2, ac2, rfl⟩ := pa.letters; have KP := gr_none (by first | exact gr_d _ | exact gr_d1 | exact gr_refl _ _) ga; have GG : W.grownBy wa none := gr_none (by first | exact gr_none GG (gr_d _) | exact gr_none GG gr_d1 | exact GG) ga; clear KP; obtain ⟨ax0, ax1, axf0, axf1⟩ := (BX.out wa GG).c2; obtain ⟨ar0, ar1, ar2, ar3, ar4, ar5, arf0, arf1, arf2, arf3, arf4, arf5⟩ := (BR.out wa GG).c6) | (go_at_call_of 44 (Value.string t); refine (qOf_fit t m L _ ht HK2.out (by rw [gr_cell (gr_none GW.out (by first | exact gr_none GG (gr_d _) | exact gr_none GG gr_d1 | exact GG)) HM.out])).mono ?_; rintro e wb ⟨vb, rfl, pb, gb⟩; obtain ⟨bk, bo1, bl1, bc1, bo2, bl2, bc2, rfl⟩ := pb.letters; have KP := gr_none (by first | exact gr_d _ | exact gr_d1 | exact gr_refl _ _) gb; have GG : W.grownBy wb none := gr_none (by first | exact gr_none GG (gr_d _) | exact gr_none GG gr_d1 | exact GG) gb; (try have pa := pa.keep0 KP); clear KP; obtain ⟨bx0, bx1, bxf0, bxf1⟩ := (BX.out wb GG).c2; obtain ⟨br0, br1, br2, br3, br4, br5, brf0, brf1, brf2, brf3, brf4, brf5⟩ := (BR.out wb GG).c6))
  all_goals
    have F1 := hide pa
    have F2 := hide pb
    have HGd := hide GG
    clear pa pb
    go_wp2
    refine bodyPost_ret (v := .agg #[.bool ak, .slice ao1 al1 ac1, .slice ao2 al2 ac2, .bool bk, .slice bo1 bl1 bc1, .slice bo2 bl2 bc2]) (by first | (simp [results, Tryz.results22, go_sem, br0, br1, br2, br3, br4, br5]; done) | (simp [results, Tryz.results22, go_sem, br0, br1, br2, br3, br4, br5]; rfl)) rfl ?_
    refine ⟨_, rfl, ZQ.kept (ZQ.of F1.out F2.out) ((BR.out _ HGd.out).kept6 _ _ _ _ _ _ (noWd6 _ _ _ _ _ _ _ _ _ _ _ _ _ _)), ?_⟩
    exact gr_set (gr_set (gr_set (gr_set (gr_set (gr_set ((gr_none GW.out HGd.out)) _ _ (by first | (simp; done) | (simp; omega))) _ _ (by first | (simp; done) | (simp; omega))) _ _ (by first | (simp; done) | (simp; omega))) _ _ (by first | (simp; done) | (simp; omega))) _ _ (by first | (simp; done) | (simp; omega))) _ _ (by first | (simp; done) | (simp; omega))
set_option maxHeartbeats 8000000 in
set_option maxRecDepth 10000 in
theorem zZ_at (x : Value) (p q : Rat) (L : Nat) (w : World) (hx : ZQ w x p q L) (hL : L ≤ 100000000000) (ht : Tab10 w) :
    Calls Tryz.prog 51 #[x] w fun e w' => e = .returned (.agg #[.string ⟨(qtext p).toArray⟩, .string ⟨(qtext q).toArray⟩]) ∧ w.grownBy w' none := by
  obtain ⟨xk1, xo1, xl1, xc1, xo2, xl2, xc2, xk2, xo3, xl3, xc3, xo4, xl4, xc4, rfl, hx1, hx2⟩ := hx.letters
  have HX1 := hide hx1
  have HX2 := hide hx2
  have HT := hide ht
  clear hx hx1 hx2 ht
  obtain ⟨W, hW⟩ : ∃ W, W = ((w.alloc (Obj.cells #[.bool xk1, .slice xo1 xl1 xc1, .slice xo2 xl2 xc2, .bool xk2, .slice xo3 xl3 xc3, .slice xo4 xl4 xc4] 55)).alloc (Obj.cells #[.string ⟨#[]⟩, .string ⟨#[]⟩] 24)) := ⟨_, rfl⟩
  have GW : Hid (w.grownBy W none) := by rw [hW]; exact gr_alloc (gr_alloc (gr_refl _ _) _) _
  have BX : Hid (∀ wx, W.grownBy wx none → BoxC wx (w.heap.size) #[.bool xk1, .slice xo1 xl1 xc1, .slice xo2 xl2 xc2, .bool xk2, .slice xo3 xl3 xc3, .slice xo4 xl4 xc4]) := by
    intro wx hg
    rw [hW] at hg
    have h0 := (boxNew' w #[.bool xk1, .slice xo1 xl1 xc1, .slice xo2 xl2 xc2, .bool xk2, .slice xo3 xl3 xc3, .slice xo4 xl4 xc4] 55 (w.heap.size) (by simp))
    exact ((h0).keep0 (gr_alloc (gr_refl _ _) _)).keep0 hg
  have BR : Hid (∀ wx, W.grownBy wx none → BoxC wx (w.heap.size + 1) #[.string ⟨#[]⟩, .string ⟨#[]⟩]) := by
    intro wx hg
    rw [hW] at hg
    have h0 := (boxNew' (w.alloc (Obj.cells #[.bool xk1, .slice xo1 xl1 xc1, .slice xo2 xl2 xc2, .bool xk2, .slice xo3 xl3 xc3, .slice xo4 xl4 xc4] 55)) #[.string ⟨#[]⟩, .string ⟨#[]⟩] 24 (w.heap.size + 1) (by simp))
    exact (h0).keep0 hg
  have hne1_0 : ¬ w.heap.size + 1 = w.heap.size := by omega
  have hnf1_0 : ¬ w.heap.size = w.heap.size + 1 := by omega
  obtain ⟨x0, x1, x2, x3, x4, x5, xf0, xf1, xf2, xf3, xf4, xf5⟩ := (BX.out W (gr_refl _ _)).c6
  go_enter Tryz.func51, Tryz.ntmps51
  go_wp2
  rw [← hW]
  clear hW
  have GG : W.grownBy W none := gr_refl _ _
  go_region_held3 (fun w' => w'.cell? ⟨w.heap.size, 0, none⟩ = some (.bool xk1) ∧ w'.cell? ⟨w.heap.size, 1, none⟩ = some (.slice xo1 xl1 xc1) ∧ w'.cell? ⟨w.heap.size, 2, none⟩ = some (.slice xo2 xl2 xc2) ∧ w'.cell? ⟨w.heap.size, 3, none⟩ = some (.bool xk2) ∧ w'.cell? ⟨w.heap.size, 4, none⟩ = some (.slice xo3 xl3 xc3) ∧ w'.cell? ⟨w.heap.size, 5, none⟩ = some (.slice xo4 xl4 xc4)) (go_keep)
    (first | (go_at_call_of 50 (Value.agg #[.bool xk1, .slice xo1 xl1 xc1, .slice xo2 xl2 xc2]); refine (fQ_at _ p L _ (HX1.out.keep0 (gr_none GW.out (by first | exact gr_none GG (gr_d _) | exact gr_none GG gr_d1 | exact GG))) hL (HT.out.keep0 (gr_none GW.out (by first | exact gr_none GG (gr_d _) | exact gr_none GG gr_d1 | exact GG)))).mono ?_; rintro e wa ⟨rfl, ga⟩; have GG : W.grownBy wa none := gr_none (by first | exact gr_none GG (gr_d _) | exact gr_none GG gr_d1 | exact GG) ga; obtain ⟨ax0, ax1, ax2, ax3, ax4, ax5, axf0, axf1, axf2, axf3, axf4, axf5⟩ := (BX.out wa GG).c6; obtain ⟨ar0, ar1, arf0, arf1⟩ := (BR.out wa GG).c2) | (go_at_call_of 50 (Value.agg #[.bool xk2, .slice xo3 xl3 xc3, .slice xo4 xl4 xc4]); refine (fQ_at _ q L _ (HX2.out.keep0 (gr_none GW.out (by first | exact gr_none GG (gr_d _) | exact gr_none GG gr_d1 | exact GG))) hL (HT.out.keep0 (gr_none GW.out (by first | exact gr_none GG (gr_d _) | exact gr_none GG gr_d1 | exact GG)))).mono ?_; rintro e wb ⟨rfl, gb⟩; have GG : W.grownBy wb none := gr_none (by first | exact gr_none GG (gr_d _) | exact gr_none GG gr_d1 | exact GG) gb; obtain ⟨bx0, bx1, bx2, bx3, bx4, bx5, bxf0, bxf1, bxf2, bxf3, bxf4, bxf5⟩ := (BX.out wb GG).c6; obtain ⟨br0, br1, brf0, brf1⟩ := (BR.out wb GG).c2))
  all_goals
    have HGd := hide GG
    go_wp2
    refine bodyPost_ret (v := .agg #[.string ⟨(qtext p).toArray⟩, .string ⟨(qtext q).toArray⟩]) (by first | (simp [results, Tryz.results51, go_sem, br0, br1]; done) | (simp [results, Tryz.results51, go_sem, br0, br1]; rfl)) rfl ?_
    exact ⟨rfl, gr_set (gr_set (gr_none GW.out HGd.out) _ _ (by first | (simp; done) | (simp; omega))) _ _ (by first | (simp; done) | (simp; omega))⟩
end Go.Proofs.YtnpfjnkmpbmgeaaGreatDoor
