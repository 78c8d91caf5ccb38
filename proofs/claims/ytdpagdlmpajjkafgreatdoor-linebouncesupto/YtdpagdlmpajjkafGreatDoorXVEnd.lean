/- line: end. -/
import Derived.Test.YtdpagdlmpajjkafGreatDoorXVa
namespace Go.Proofs.YtdpagdlmpajjkafGreatDoor
open Go.RowKit
set_option linter.unusedVariables false
set_option linter.unusedSimpArgs false
theorem end_bad {p q : Rat} : (1 - p = 0 ∧ -q = 0) ↔ (p = 1 ∧ q = 0) := by
  constructor
  · rintro ⟨h1, h2⟩
    constructor <;> grind
  · rintro ⟨h1, h2⟩
    constructor <;> grind
theorem ZQ.zero0 {w : World} {v : Value} {l : Rat} {L : Nat} (h : ZQ w v (0 * l) (0 * l) L) : ZQ w v 0 0 L := by
  have e : 0 * l = 0 := by grind
  rw [e] at h
  exact h
def EnE (w : World) (bad : Prop) (p q : Rat) (L : Nat) (e : Ending) (w' : World) : Prop := w.grownBy w' none ∧ ∃ (v : Value) (c : Int), e = .returned (.tuple #[v, .int .i64 c]) ∧ ((bad ∧ c = 9 ∧ ZQ w' v 0 0 L) ∨ (¬ bad ∧ c = 0 ∧ ZQ w' v p q L))
set_option maxHeartbeats 16000000 in
set_option maxRecDepth 10000 in
theorem end_at (x y : Value) (p q l : Rat) (L M : Nat) (w : World) (hx : ZQ w x p q L) (hy : FQ w y l M) (hl : L + M ≤ 10000000000) :
    Calls Tryz.prog 77 #[x, y] w fun e w' => EnE w (p = 1 ∧ q = 0) (cdR (1 + p) q (1 - p) (-q) * l) (cdI (1 + p) q (1 - p) (-q) * l) (16 * L + 2 * M + 80) e w' := by
  obtain ⟨xk1, xo1, xl1, xc1, xo2, xl2, xc2, xk2, xo3, xl3, xc3, xo4, xl4, xc4, rfl, _, _⟩ := hx.letters
  obtain ⟨lk, lo1, ll1, lc1, lo2, ll2, lc2, rfl⟩ := hy.letters
  have HX := hide hx
  have HL := hide hy
  clear hx hy
  obtain ⟨W, hW⟩ : ∃ W, W = (((w.alloc (Obj.cells #[.bool xk1, .slice xo1 xl1 xc1, .slice xo2 xl2 xc2, .bool xk2, .slice xo3 xl3 xc3, .slice xo4 xl4 xc4] 119)).alloc (Obj.cells #[.bool lk, .slice lo1 ll1 lc1, .slice lo2 ll2 lc2] 114)).alloc (Obj.cells #[.bool false, .slice none 0 0, .slice none 0 0, .bool false, .slice none 0 0, .slice none 0 0] 119)) := ⟨_, rfl⟩
  have GW : Hid (w.grownBy W none) := by rw [hW]; exact gr_alloc (gr_alloc (gr_alloc (gr_refl _ _) _) _) _
  have BZ : Hid (∀ wx, W.grownBy wx none → BoxC wx (w.heap.size) #[.bool xk1, .slice xo1 xl1 xc1, .slice xo2 xl2 xc2, .bool xk2, .slice xo3 xl3 xc3, .slice xo4 xl4 xc4]) := by
    intro wx hg
    rw [hW] at hg
    have h0 := (boxNew' w #[.bool xk1, .slice xo1 xl1 xc1, .slice xo2 xl2 xc2, .bool xk2, .slice xo3 xl3 xc3, .slice xo4 xl4 xc4] 119 (w.heap.size) (by simp))
    exact (((h0).keep0 (gr_alloc (gr_refl _ _) _)).keep0 (gr_alloc (gr_refl _ _) _)).keep0 hg
  have BLn : Hid (∀ wx, W.grownBy wx none → BoxC wx (w.heap.size + 1) #[.bool lk, .slice lo1 ll1 lc1, .slice lo2 ll2 lc2]) := by
    intro wx hg
    rw [hW] at hg
    have h0 := (boxNew' (w.alloc (Obj.cells #[.bool xk1, .slice xo1 xl1 xc1, .slice xo2 xl2 xc2, .bool xk2, .slice xo3 xl3 xc3, .slice xo4 xl4 xc4] 119)) #[.bool lk, .slice lo1 ll1 lc1, .slice lo2 ll2 lc2] 114 (w.heap.size + 1) (by simp))
    exact ((h0).keep0 (gr_alloc (gr_refl _ _) _)).keep0 hg
  have BR : Hid (∀ wx, W.grownBy wx none → BoxC wx (w.heap.size + 1 + 1) #[.bool false, .slice none 0 0, .slice none 0 0, .bool false, .slice none 0 0, .slice none 0 0]) := by
    intro wx hg
    rw [hW] at hg
    have h0 := (boxNew' ((w.alloc (Obj.cells #[.bool xk1, .slice xo1 xl1 xc1, .slice xo2 xl2 xc2, .bool xk2, .slice xo3 xl3 xc3, .slice xo4 xl4 xc4] 119)).alloc (Obj.cells #[.bool lk, .slice lo1 ll1 lc1, .slice lo2 ll2 lc2] 114)) #[.bool false, .slice none 0 0, .slice none 0 0, .bool false, .slice none 0 0, .slice none 0 0] 119 (w.heap.size + 1 + 1) (by simp))
    exact (h0).keep0 hg
  have hne2_0 : ¬ w.heap.size + 1 + 1 = w.heap.size := by omega
  have hnf2_0 : ¬ w.heap.size = w.heap.size + 1 + 1 := by omega
  have hne2_1 : ¬ w.heap.size + 1 + 1 = w.heap.size + 1 := by omega
  have hnf2_1 : ¬ w.heap.size + 1 = w.heap.size + 1 + 1 := by omega
  have HWS : Hid (w.heap.size + 1 + 1 + 1 ≤ W.heap.size) := by unfold Hid; rw [hW]; simp
  by_cases hn : p = 1 ∧ q = 0
  · have HB : Hid ((1 - p = 0 ∧ -q = 0)) := end_bad.2 hn
    go_enter Tryz.func77, Tryz.ntmps77
    go_wp2_with fail
    rw [← hW]
    clear hW
    refine (one_at W).mono ?_
    rintro e w1 ⟨v1, rfl, p1, g1⟩
    obtain ⟨uk, uo1, ul1, uc1, uo2, ul2, uc2, rfl⟩ := p1.letters
    have P1 := hide p1
    have G1 := hide g1
    have hle : w.heap.size + 1 + 1 + 1 ≤ w1.heap.size := Nat.le_trans HWS.out g1.size
    clear p1 g1
    go_upto_region 2 with fail
    obtain ⟨W2, hW2⟩ : ∃ wz, wz = (w1.alloc (Obj.cells #[.bool uk, .slice uo1 ul1 uc1, .slice uo2 ul2 uc2, .bool false, .slice none 0 0, .slice none 0 0] 119)) := ⟨_, rfl⟩
    have GW2 : Hid (w1.grownBy W2 none) := by rw [hW2]; exact gr_alloc (gr_refl _ _) _
    have BO : Hid (∀ wx, W2.grownBy wx none → BoxC wx w1.heap.size #[.bool uk, .slice uo1 ul1 uc1, .slice uo2 ul2 uc2, .bool false, .slice none 0 0, .slice none 0 0]) := by
      intro wx g
      rw [hW2] at g
      exact (boxNew w1 #[.bool uk, .slice uo1 ul1 uc1, .slice uo2 ul2 uc2, .bool false, .slice none 0 0, .slice none 0 0] 119).keep0 g
    rw [← hW2]
    have hle2 : w1.heap.size + 1 ≤ W2.heap.size := by rw [hW2]; simp
    clear hW2
    have hu_0 : ¬ W2.heap.size = w.heap.size := by omega
    have hv_0 : ¬ w.heap.size = W2.heap.size := by omega
    have hu_1 : ¬ W2.heap.size = w1.heap.size := by omega
    have hv_1 : ¬ w1.heap.size = W2.heap.size := by omega
    have GA := hide (gr_none (gr_none GW.out G1.out) GW2.out)
    have GB := hide (gr_none G1.out GW2.out)
    have B2Z : Hid (∀ wx, W2.grownBy wx none → BoxC wx (w.heap.size) #[.bool xk1, .slice xo1 xl1 xc1, .slice xo2 xl2 xc2, .bool xk2, .slice xo3 xl3 xc3, .slice xo4 xl4 xc4]) := fun wx g => BZ.out wx (gr_none GB.out g)
    have B2L : Hid (∀ wx, W2.grownBy wx none → BoxC wx (w.heap.size + 1) #[.bool lk, .slice lo1 ll1 lc1, .slice lo2 ll2 lc2]) := fun wx g => BLn.out wx (gr_none GB.out g)
    have B2R : Hid (∀ wx, W2.grownBy wx none → BoxC wx (w.heap.size + 1 + 1) #[.bool false, .slice none 0 0, .slice none 0 0, .bool false, .slice none 0 0, .slice none 0 0]) := fun wx g => BR.out wx (gr_none GB.out g)
    have GG : W2.grownBy W2 none := gr_refl _ _
    obtain ⟨z0, z1, z2, z3, z4, z5, zf0, zf1, zf2, zf3, zf4, zf5⟩ := (B2Z.out W2 GG).c6
    obtain ⟨o0, o1, o2, o3, o4, o5, of0, of1, of2, of3, of4, of5⟩ := (BO.out W2 GG).c6
    go_cut [7, 8] (fun s7 s8 wx => Hid (∃ b, W2.heap.size ≤ b ∧ s7 = .pointer (some ⟨b, 0, none⟩) ∧ s8 = .int .i64 9 ∧ W2.grownBy wx none ∧ ∃ c0 c1 c2 c3 c4 c5, BoxC wx b #[c0, c1, c2, c3, c4, c5] ∧ ZQ wx (.agg #[c0, c1, c2, c3, c4, c5]) 0 0 (2 * (1 + L + 2) + 6 * (1 + L + 2) + 10)))
    case first =>
      go_region_held3 (fun w' => w'.cell? ⟨w.heap.size, 0, none⟩ = some (.bool xk1) ∧ w'.cell? ⟨w.heap.size, 1, none⟩ = some (.slice xo1 xl1 xc1) ∧ w'.cell? ⟨w.heap.size, 2, none⟩ = some (.slice xo2 xl2 xc2) ∧ w'.cell? ⟨w.heap.size, 3, none⟩ = some (.bool xk2) ∧ w'.cell? ⟨w.heap.size, 4, none⟩ = some (.slice xo3 xl3 xc3) ∧ w'.cell? ⟨w.heap.size, 5, none⟩ = some (.slice xo4 xl4 xc4) ∧ w'.cell? ⟨w1.heap.size, 0, none⟩ = some (.bool uk) ∧ w'.cell? ⟨w1.heap.size, 1, none⟩ = some (.slice uo1 ul1 uc1) ∧ w'.cell? ⟨w1.heap.size, 2, none⟩ = some (.slice uo2 ul2 uc2) ∧ w'.cell? ⟨w1.heap.size, 3, none⟩ = some (.bool false) ∧ w'.cell? ⟨w1.heap.size, 4, none⟩ = some (.slice none 0 0) ∧ w'.cell? ⟨w1.heap.size, 5, none⟩ = some (.slice none 0 0)) (go_keep)
        (first | (go_at_call 152; refine (zPlus_at _ _ 1 0 p q 1 L _ (ZQ.real (P1.out.keep0 (gr_none GW2.out (by first | exact gr_none GG (gr_d _) | exact gr_none GG gr_d1 | exact GG | exact gr_alloc GG _ | exact gr_alloc (gr_none GG gr_d1) _ | exact gr_alloc (gr_none GG (gr_d _)) _)))) (HX.out.keep0 (gr_none GA.out (by first | exact gr_none GG (gr_d _) | exact gr_none GG gr_d1 | exact GG | exact gr_alloc GG _ | exact gr_alloc (gr_none GG gr_d1) _ | exact gr_alloc (gr_none GG (gr_d _)) _))) (by omega)).mono ?_; rintro e wa ⟨va, rfl, pa, ga⟩; obtain ⟨ak1, ao1, al1, ac1, ao2, al2, ac2, ak2, ao3, al3, ac3, ao4, al4, ac4, rfl, _, _⟩ := pa.letters; have KP := gr_none (by first | exact gr_d _ | exact gr_d1 | exact gr_alloc gr_d1 _ | exact gr_alloc (gr_d _) _ | exact gr_alloc (gr_refl _ _) _ | exact gr_refl _ _) ga; have GG : W2.grownBy wa none := gr_none (by first | exact gr_none GG (gr_d _) | exact gr_none GG gr_d1 | exact GG | exact gr_alloc GG _ | exact gr_alloc (gr_none GG gr_d1) _ | exact gr_alloc (gr_none GG (gr_d _)) _) ga; clear KP; have pa := pa.zadd; have hs_a : W2.heap.size ≤ wa.heap.size := GG.size; have hu_a0 : ¬ wa.heap.size = w.heap.size := (by omega); have hv_a0 : ¬ w.heap.size = wa.heap.size := (by omega); have hu_a1 : ¬ wa.heap.size = w1.heap.size := (by omega); have hv_a1 : ¬ w1.heap.size = wa.heap.size := (by omega); obtain ⟨a_z0, a_z1, a_z2, a_z3, a_z4, a_z5, a_zf0, a_zf1, a_zf2, a_zf3, a_zf4, a_zf5⟩ := (B2Z.out wa GG).c6; obtain ⟨a_o0, a_o1, a_o2, a_o3, a_o4, a_o5, a_of0, a_of1, a_of2, a_of3, a_of4, a_of5⟩ := (BO.out wa GG).c6; (first | (have BA := BA.keep0 ga; obtain ⟨n_a0, n_a1, n_a2, n_a3, n_a4, n_a5, n_af0, n_af1, n_af2, n_af3, n_af4, n_af5⟩ := BA.c6) | (have BA := (boxNew' (World.drew W2) #[.bool false, .slice none 0 0, .slice none 0 0, .bool false, .slice none 0 0, .slice none 0 0] 119 W2.heap.size rfl).keep0 ga; obtain ⟨n_a0, n_a1, n_a2, n_a3, n_a4, n_a5, n_af0, n_af1, n_af2, n_af3, n_af4, n_af5⟩ := BA.c6) | (have BA := (boxNew _ #[.bool false, .slice none 0 0, .slice none 0 0, .bool false, .slice none 0 0, .slice none 0 0] 119).keep0 ga; obtain ⟨n_a0, n_a1, n_a2, n_a3, n_a4, n_a5, n_af0, n_af1, n_af2, n_af3, n_af4, n_af5⟩ := BA.c6) | skip)) | (go_at_call 151; refine (zMinus_at _ _ 1 0 p q 1 L _ (ZQ.real (P1.out.keep0 (gr_none GW2.out (by first | exact gr_none GG (gr_d _) | exact gr_none GG gr_d1 | exact GG | exact gr_alloc GG _ | exact gr_alloc (gr_none GG gr_d1) _ | exact gr_alloc (gr_none GG (gr_d _)) _)))) (HX.out.keep0 (gr_none GA.out (by first | exact gr_none GG (gr_d _) | exact gr_none GG gr_d1 | exact GG | exact gr_alloc GG _ | exact gr_alloc (gr_none GG gr_d1) _ | exact gr_alloc (gr_none GG (gr_d _)) _))) (by omega)).mono ?_; rintro e wb ⟨vb, rfl, pb, gb⟩; obtain ⟨bk1, bo1, bl1, bc1, bo2, bl2, bc2, bk2, bo3, bl3, bc3, bo4, bl4, bc4, rfl, _, _⟩ := pb.letters; have KP := gr_none (by first | exact gr_d _ | exact gr_d1 | exact gr_alloc gr_d1 _ | exact gr_alloc (gr_d _) _ | exact gr_alloc (gr_refl _ _) _ | exact gr_refl _ _) gb; have GG : W2.grownBy wb none := gr_none (by first | exact gr_none GG (gr_d _) | exact gr_none GG gr_d1 | exact GG | exact gr_alloc GG _ | exact gr_alloc (gr_none GG gr_d1) _ | exact gr_alloc (gr_none GG (gr_d _)) _) gb; (try have pa := pa.keep0 KP); clear KP; have pb := pb.zsub; have hs_b : W2.heap.size ≤ wb.heap.size := GG.size; have hu_b0 : ¬ wb.heap.size = w.heap.size := (by omega); have hv_b0 : ¬ w.heap.size = wb.heap.size := (by omega); have hu_b1 : ¬ wb.heap.size = w1.heap.size := (by omega); have hv_b1 : ¬ w1.heap.size = wb.heap.size := (by omega); obtain ⟨b_z0, b_z1, b_z2, b_z3, b_z4, b_z5, b_zf0, b_zf1, b_zf2, b_zf3, b_zf4, b_zf5⟩ := (B2Z.out wb GG).c6; obtain ⟨b_o0, b_o1, b_o2, b_o3, b_o4, b_o5, b_of0, b_of1, b_of2, b_of3, b_of4, b_of5⟩ := (BO.out wb GG).c6; (first | (have BA := BA.keep0 gb; obtain ⟨n_b0, n_b1, n_b2, n_b3, n_b4, n_b5, n_bf0, n_bf1, n_bf2, n_bf3, n_bf4, n_bf5⟩ := BA.c6) | (have BA := (boxNew' (World.drew W2) #[.bool false, .slice none 0 0, .slice none 0 0, .bool false, .slice none 0 0, .slice none 0 0] 119 W2.heap.size rfl).keep0 gb; obtain ⟨n_b0, n_b1, n_b2, n_b3, n_b4, n_b5, n_bf0, n_bf1, n_bf2, n_bf3, n_bf4, n_bf5⟩ := BA.c6) | (have BA := (boxNew _ #[.bool false, .slice none 0 0, .slice none 0 0, .bool false, .slice none 0 0, .slice none 0 0] 119).keep0 gb; obtain ⟨n_b0, n_b1, n_b2, n_b3, n_b4, n_b5, n_bf0, n_bf1, n_bf2, n_bf3, n_bf4, n_bf5⟩ := BA.c6) | skip)) | (go_at_call 150; refine (lOver_at _ _ (1 + p) q (1 - p) (-q) (1 + L + 2) (1 + L + 2) _ (pa.keep0 (by first | exact gr_d _ | exact gr_d1 | exact gr_alloc gr_d1 _ | exact gr_alloc (gr_d _) _ | exact gr_alloc (gr_refl _ _) _ | exact gr_refl _ _)) (pb.keep0 (by first | exact gr_d _ | exact gr_d1 | exact gr_alloc gr_d1 _ | exact gr_alloc (gr_d _) _ | exact gr_alloc (gr_refl _ _) _ | exact gr_refl _ _)) (by omega)).mono ?_; rintro e wc hc; obtain ⟨rfl, gc⟩ := hc.ill HB.out; have KP := gr_none (by first | exact gr_d _ | exact gr_d1 | exact gr_alloc gr_d1 _ | exact gr_alloc (gr_d _) _ | exact gr_alloc (gr_refl _ _) _ | exact gr_refl _ _) gc; have GG : W2.grownBy wc none := gr_none (by first | exact gr_none GG (gr_d _) | exact gr_none GG gr_d1 | exact GG | exact gr_alloc GG _ | exact gr_alloc (gr_none GG gr_d1) _ | exact gr_alloc (gr_none GG (gr_d _)) _) gc; clear KP; have hs_c : W2.heap.size ≤ wc.heap.size := GG.size; have hu_c0 : ¬ wc.heap.size = w.heap.size := (by omega); have hv_c0 : ¬ w.heap.size = wc.heap.size := (by omega); have hu_c1 : ¬ wc.heap.size = w1.heap.size := (by omega); have hv_c1 : ¬ w1.heap.size = wc.heap.size := (by omega); obtain ⟨c_z0, c_z1, c_z2, c_z3, c_z4, c_z5, c_zf0, c_zf1, c_zf2, c_zf3, c_zf4, c_zf5⟩ := (B2Z.out wc GG).c6; obtain ⟨c_o0, c_o1, c_o2, c_o3, c_o4, c_o5, c_of0, c_of1, c_of2, c_of3, c_of4, c_of5⟩ := (BO.out wc GG).c6; (first | (have BA := BA.keep0 gc; obtain ⟨n_c0, n_c1, n_c2, n_c3, n_c4, n_c5, n_cf0, n_cf1, n_cf2, n_cf3, n_cf4, n_cf5⟩ := BA.c6) | (have BA := (boxNew' (World.drew W2) #[.bool false, .slice none 0 0, .slice none 0 0, .bool false, .slice none 0 0, .slice none 0 0] 119 W2.heap.size rfl).keep0 gc; obtain ⟨n_c0, n_c1, n_c2, n_c3, n_c4, n_c5, n_cf0, n_cf1, n_cf2, n_cf3, n_cf4, n_cf5⟩ := BA.c6) | (have BA := (boxNew _ #[.bool false, .slice none 0 0, .slice none 0 0, .bool false, .slice none 0 0, .slice none 0 0] 119).keep0 gc; obtain ⟨n_c0, n_c1, n_c2, n_c3, n_c4, n_c5, n_cf0, n_cf1, n_cf2, n_cf3, n_cf4, n_cf5⟩ := BA.c6) | skip)))
      all_goals
        have HGd := hide GG
        have PC : Hid (ZQ wc (.agg #[.bool false, .slice none 0 0, .slice none 0 0, .bool false, .slice none 0 0, .slice none 0 0]) 0 0 (2 * (1 + L + 2) + 6 * (1 + L + 2) + 10)) := ZQ.of (fq_zero' _ _) (fq_zero' _ _)
        go_wp2
        go_meet
        first
          | (have BA2 := BA; exact ⟨_, (by first | exact Nat.le_refl _ | omega | (simp; done) | (simp; omega)), rfl, rfl, gr_set (gr_set (gr_set (gr_set (gr_set (gr_set (HGd.out) _ _ (by first | (simp; done) | (simp; omega))) _ _ (by first | (simp; done) | (simp; omega))) _ _ (by first | (simp; done) | (simp; omega))) _ _ (by first | (simp; done) | (simp; omega))) _ _ (by first | (simp; done) | (simp; omega))) _ _ (by first | (simp; done) | (simp; omega)), _, _, _, _, _, _, BA2.set6, PC.out.kept (BA2.kept6 _ _ _ _ _ _ (noWd6 _ _ _ _ _ _ _ _ _ _ _ _ _ _))⟩)
          | exact ⟨_, HGd.out.size, rfl, rfl, gr_alloc HGd.out _, _, _, _, _, _, _, boxNew _ _ _, PC.out.keep0 (gr_alloc (gr_refl _ _) _)⟩
    case rest =>
      obtain ⟨bx, hbx, rfl, rfl, gc, c0, c1, c2, c3, c4, c5, bc, pc⟩ := hcut.out
      obtain ⟨ck1, co1, cl1, cc1, co2, cl2, cc2, ck2, co3, cl3, cc3, co4, cl4, cc4, e, _, _⟩ := pc.letters
      simp only [Value.agg.injEq, Array.mk.injEq, List.cons.injEq, and_true] at e
      obtain ⟨rfl, rfl, rfl, rfl, rfl, rfl⟩ := e
      have PC := hide pc
      have GC := hide gc
      obtain ⟨k0, k1, k2, k3, k4, k5, kf0, kf1, kf2, kf3, kf4, kf5⟩ := bc.c6
      obtain ⟨m0, m1, m2, mf0, mf1, mf2⟩ := (B2L.out wc gc).c3
      have HL3 := hide (HL.out.keep0 (gr_none GA.out gc))
      clear hcut pc gc bc z0 z1 z2 z3 z4 z5 zf0 zf1 zf2 zf3 zf4 zf5 o0 o1 o2 o3 o4 o5 of0 of1 of2 of3 of4 of5
      go_wp2_with fail
      refine (zTimes_at _ _ 0 0 l 0 (2 * (1 + L + 2) + 6 * (1 + L + 2) + 10) M _ PC.out (ZQ.real HL3.out) (by omega)).mono ?_
      rintro e w5 ⟨v5, rfl, p5, g5⟩
      obtain ⟨ek1, eo1, el1, ec1, eo2, el2, ec2, ek2, eo3, el3, ec3, eo4, el4, ec4, rfl, _, _⟩ := p5.letters
      have P5 := hide ((p5.tim).zero0.mono (show _ ≤ 16 * L + 2 * M + 80 by omega))
      have G5 := hide (gr_none GC.out g5)
      clear p5 g5
      have BR5 := hide (B2R.out w5 G5.out)
      obtain ⟨t0, t1, t2, t3, t4, t5, tf0, tf1, tf2, tf3, tf4, tf5⟩ := BR5.out.c6
      go_wp2
      refine bodyPost_ret (v := .tuple #[.agg #[.bool ek1, .slice eo1 el1 ec1, .slice eo2 el2 ec2, .bool ek2, .slice eo3 el3 ec3, .slice eo4 el4 ec4], .int .i64 9]) (by first | (simp [results, Tryz.results77, go_sem, t0, t1, t2, t3, t4, t5]; done) | (simp [results, Tryz.results77, go_sem, t0, t1, t2, t3, t4, t5]; rfl)) rfl ?_
      exact ⟨gr_set (gr_set (gr_set (gr_set (gr_set (gr_set (gr_none GA.out G5.out) _ _ (by first | (simp; done) | (simp; omega))) _ _ (by first | (simp; done) | (simp; omega))) _ _ (by first | (simp; done) | (simp; omega))) _ _ (by first | (simp; done) | (simp; omega))) _ _ (by first | (simp; done) | (simp; omega))) _ _ (by first | (simp; done) | (simp; omega)), _, _, rfl, .inl ⟨hn, rfl, P5.out.kept (BR5.out.kept6 _ _ _ _ _ _ (noWd6 _ _ _ _ _ _ _ _ _ _ _ _ _ _))⟩⟩
  · have HB : Hid (¬ (1 - p = 0 ∧ -q = 0)) := fun e => hn (end_bad.1 e)
    go_enter Tryz.func77, Tryz.ntmps77
    go_wp2_with fail
    rw [← hW]
    clear hW
    refine (one_at W).mono ?_
    rintro e w1 ⟨v1, rfl, p1, g1⟩
    obtain ⟨uk, uo1, ul1, uc1, uo2, ul2, uc2, rfl⟩ := p1.letters
    have P1 := hide p1
    have G1 := hide g1
    have hle : w.heap.size + 1 + 1 + 1 ≤ w1.heap.size := Nat.le_trans HWS.out g1.size
    clear p1 g1
    go_upto_region 2 with fail
    obtain ⟨W2, hW2⟩ : ∃ wz, wz = (w1.alloc (Obj.cells #[.bool uk, .slice uo1 ul1 uc1, .slice uo2 ul2 uc2, .bool false, .slice none 0 0, .slice none 0 0] 119)) := ⟨_, rfl⟩
    have GW2 : Hid (w1.grownBy W2 none) := by rw [hW2]; exact gr_alloc (gr_refl _ _) _
    have BO : Hid (∀ wx, W2.grownBy wx none → BoxC wx w1.heap.size #[.bool uk, .slice uo1 ul1 uc1, .slice uo2 ul2 uc2, .bool false, .slice none 0 0, .slice none 0 0]) := by
      intro wx g
      rw [hW2] at g
      exact (boxNew w1 #[.bool uk, .slice uo1 ul1 uc1, .slice uo2 ul2 uc2, .bool false, .slice none 0 0, .slice none 0 0] 119).keep0 g
    rw [← hW2]
    have hle2 : w1.heap.size + 1 ≤ W2.heap.size := by rw [hW2]; simp
    clear hW2
    have hu_0 : ¬ W2.heap.size = w.heap.size := by omega
    have hv_0 : ¬ w.heap.size = W2.heap.size := by omega
    have hu_1 : ¬ W2.heap.size = w1.heap.size := by omega
    have hv_1 : ¬ w1.heap.size = W2.heap.size := by omega
    have GA := hide (gr_none (gr_none GW.out G1.out) GW2.out)
    have GB := hide (gr_none G1.out GW2.out)
    have B2Z : Hid (∀ wx, W2.grownBy wx none → BoxC wx (w.heap.size) #[.bool xk1, .slice xo1 xl1 xc1, .slice xo2 xl2 xc2, .bool xk2, .slice xo3 xl3 xc3, .slice xo4 xl4 xc4]) := fun wx g => BZ.out wx (gr_none GB.out g)
    have B2L : Hid (∀ wx, W2.grownBy wx none → BoxC wx (w.heap.size + 1) #[.bool lk, .slice lo1 ll1 lc1, .slice lo2 ll2 lc2]) := fun wx g => BLn.out wx (gr_none GB.out g)
    have B2R : Hid (∀ wx, W2.grownBy wx none → BoxC wx (w.heap.size + 1 + 1) #[.bool false, .slice none 0 0, .slice none 0 0, .bool false, .slice none 0 0, .slice none 0 0]) := fun wx g => BR.out wx (gr_none GB.out g)
    have GG : W2.grownBy W2 none := gr_refl _ _
    obtain ⟨z0, z1, z2, z3, z4, z5, zf0, zf1, zf2, zf3, zf4, zf5⟩ := (B2Z.out W2 GG).c6
    obtain ⟨o0, o1, o2, o3, o4, o5, of0, of1, of2, of3, of4, of5⟩ := (BO.out W2 GG).c6
    go_cut [7, 8] (fun s7 s8 wx => Hid (∃ b, W2.heap.size ≤ b ∧ s7 = .pointer (some ⟨b, 0, none⟩) ∧ s8 = .int .i64 0 ∧ W2.grownBy wx none ∧ ∃ c0 c1 c2 c3 c4 c5, BoxC wx b #[c0, c1, c2, c3, c4, c5] ∧ ZQ wx (.agg #[c0, c1, c2, c3, c4, c5]) (cdR (1 + p) q (1 - p) (-q)) (cdI (1 + p) q (1 - p) (-q)) (2 * (1 + L + 2) + 6 * (1 + L + 2) + 10)))
    case first =>
      go_region_held3 (fun w' => w'.cell? ⟨w.heap.size, 0, none⟩ = some (.bool xk1) ∧ w'.cell? ⟨w.heap.size, 1, none⟩ = some (.slice xo1 xl1 xc1) ∧ w'.cell? ⟨w.heap.size, 2, none⟩ = some (.slice xo2 xl2 xc2) ∧ w'.cell? ⟨w.heap.size, 3, none⟩ = some (.bool xk2) ∧ w'.cell? ⟨w.heap.size, 4, none⟩ = some (.slice xo3 xl3 xc3) ∧ w'.cell? ⟨w.heap.size, 5, none⟩ = some (.slice xo4 xl4 xc4) ∧ w'.cell? ⟨w1.heap.size, 0, none⟩ = some (.bool uk) ∧ w'.cell? ⟨w1.heap.size, 1, none⟩ = some (.slice uo1 ul1 uc1) ∧ w'.cell? ⟨w1.heap.size, 2, none⟩ = some (.slice uo2 ul2 uc2) ∧ w'.cell? ⟨w1.heap.size, 3, none⟩ = some (.bool false) ∧ w'.cell? ⟨w1.heap.size, 4, none⟩ = some (.slice none 0 0) ∧ w'.cell? ⟨w1.heap.size, 5, none⟩ = some (.slice none 0 0)) (go_keep)
        (first | (go_at_call 152; refine (zPlus_at _ _ 1 0 p q 1 L _ (ZQ.real (P1.out.keep0 (gr_none GW2.out (by first | exact gr_none GG (gr_d _) | exact gr_none GG gr_d1 | exact GG | exact gr_alloc GG _ | exact gr_alloc (gr_none GG gr_d1) _ | exact gr_alloc (gr_none GG (gr_d _)) _)))) (HX.out.keep0 (gr_none GA.out (by first | exact gr_none GG (gr_d _) | exact gr_none GG gr_d1 | exact GG | exact gr_alloc GG _ | exact gr_alloc (gr_none GG gr_d1) _ | exact gr_alloc (gr_none GG (gr_d _)) _))) (by omega)).mono ?_; rintro e wa ⟨va, rfl, pa, ga⟩; obtain ⟨ak1, ao1, al1, ac1, ao2, al2, ac2, ak2, ao3, al3, ac3, ao4, al4, ac4, rfl, _, _⟩ := pa.letters; have KP := gr_none (by first | exact gr_d _ | exact gr_d1 | exact gr_alloc gr_d1 _ | exact gr_alloc (gr_d _) _ | exact gr_alloc (gr_refl _ _) _ | exact gr_refl _ _) ga; have GG : W2.grownBy wa none := gr_none (by first | exact gr_none GG (gr_d _) | exact gr_none GG gr_d1 | exact GG | exact gr_alloc GG _ | exact gr_alloc (gr_none GG gr_d1) _ | exact gr_alloc (gr_none GG (gr_d _)) _) ga; clear KP; have pa := pa.zadd; have hs_a : W2.heap.size ≤ wa.heap.size := GG.size; have hu_a0 : ¬ wa.heap.size = w.heap.size := (by omega); have hv_a0 : ¬ w.heap.size = wa.heap.size := (by omega); have hu_a1 : ¬ wa.heap.size = w1.heap.size := (by omega); have hv_a1 : ¬ w1.heap.size = wa.heap.size := (by omega); obtain ⟨a_z0, a_z1, a_z2, a_z3, a_z4, a_z5, a_zf0, a_zf1, a_zf2, a_zf3, a_zf4, a_zf5⟩ := (B2Z.out wa GG).c6; obtain ⟨a_o0, a_o1, a_o2, a_o3, a_o4, a_o5, a_of0, a_of1, a_of2, a_of3, a_of4, a_of5⟩ := (BO.out wa GG).c6; (first | (have BA := BA.keep0 ga; obtain ⟨n_a0, n_a1, n_a2, n_a3, n_a4, n_a5, n_af0, n_af1, n_af2, n_af3, n_af4, n_af5⟩ := BA.c6) | (have BA := (boxNew' (World.drew W2) #[.bool false, .slice none 0 0, .slice none 0 0, .bool false, .slice none 0 0, .slice none 0 0] 119 W2.heap.size rfl).keep0 ga; obtain ⟨n_a0, n_a1, n_a2, n_a3, n_a4, n_a5, n_af0, n_af1, n_af2, n_af3, n_af4, n_af5⟩ := BA.c6) | (have BA := (boxNew _ #[.bool false, .slice none 0 0, .slice none 0 0, .bool false, .slice none 0 0, .slice none 0 0] 119).keep0 ga; obtain ⟨n_a0, n_a1, n_a2, n_a3, n_a4, n_a5, n_af0, n_af1, n_af2, n_af3, n_af4, n_af5⟩ := BA.c6) | skip)) | (go_at_call 151; refine (zMinus_at _ _ 1 0 p q 1 L _ (ZQ.real (P1.out.keep0 (gr_none GW2.out (by first | exact gr_none GG (gr_d _) | exact gr_none GG gr_d1 | exact GG | exact gr_alloc GG _ | exact gr_alloc (gr_none GG gr_d1) _ | exact gr_alloc (gr_none GG (gr_d _)) _)))) (HX.out.keep0 (gr_none GA.out (by first | exact gr_none GG (gr_d _) | exact gr_none GG gr_d1 | exact GG | exact gr_alloc GG _ | exact gr_alloc (gr_none GG gr_d1) _ | exact gr_alloc (gr_none GG (gr_d _)) _))) (by omega)).mono ?_; rintro e wb ⟨vb, rfl, pb, gb⟩; obtain ⟨bk1, bo1, bl1, bc1, bo2, bl2, bc2, bk2, bo3, bl3, bc3, bo4, bl4, bc4, rfl, _, _⟩ := pb.letters; have KP := gr_none (by first | exact gr_d _ | exact gr_d1 | exact gr_alloc gr_d1 _ | exact gr_alloc (gr_d _) _ | exact gr_alloc (gr_refl _ _) _ | exact gr_refl _ _) gb; have GG : W2.grownBy wb none := gr_none (by first | exact gr_none GG (gr_d _) | exact gr_none GG gr_d1 | exact GG | exact gr_alloc GG _ | exact gr_alloc (gr_none GG gr_d1) _ | exact gr_alloc (gr_none GG (gr_d _)) _) gb; (try have pa := pa.keep0 KP); clear KP; have pb := pb.zsub; have hs_b : W2.heap.size ≤ wb.heap.size := GG.size; have hu_b0 : ¬ wb.heap.size = w.heap.size := (by omega); have hv_b0 : ¬ w.heap.size = wb.heap.size := (by omega); have hu_b1 : ¬ wb.heap.size = w1.heap.size := (by omega); have hv_b1 : ¬ w1.heap.size = wb.heap.size := (by omega); obtain ⟨b_z0, b_z1, b_z2, b_z3, b_z4, b_z5, b_zf0, b_zf1, b_zf2, b_zf3, b_zf4, b_zf5⟩ := (B2Z.out wb GG).c6; obtain ⟨b_o0, b_o1, b_o2, b_o3, b_o4, b_o5, b_of0, b_of1, b_of2, b_of3, b_of4, b_of5⟩ := (BO.out wb GG).c6; (first | (have BA := BA.keep0 gb; obtain ⟨n_b0, n_b1, n_b2, n_b3, n_b4, n_b5, n_bf0, n_bf1, n_bf2, n_bf3, n_bf4, n_bf5⟩ := BA.c6) | (have BA := (boxNew' (World.drew W2) #[.bool false, .slice none 0 0, .slice none 0 0, .bool false, .slice none 0 0, .slice none 0 0] 119 W2.heap.size rfl).keep0 gb; obtain ⟨n_b0, n_b1, n_b2, n_b3, n_b4, n_b5, n_bf0, n_bf1, n_bf2, n_bf3, n_bf4, n_bf5⟩ := BA.c6) | (have BA := (boxNew _ #[.bool false, .slice none 0 0, .slice none 0 0, .bool false, .slice none 0 0, .slice none 0 0] 119).keep0 gb; obtain ⟨n_b0, n_b1, n_b2, n_b3, n_b4, n_b5, n_bf0, n_bf1, n_bf2, n_bf3, n_bf4, n_bf5⟩ := BA.c6) | skip)) | (go_at_call 150; refine (lOver_at _ _ (1 + p) q (1 - p) (-q) (1 + L + 2) (1 + L + 2) _ (pa.keep0 (by first | exact gr_d _ | exact gr_d1 | exact gr_alloc gr_d1 _ | exact gr_alloc (gr_d _) _ | exact gr_alloc (gr_refl _ _) _ | exact gr_refl _ _)) (pb.keep0 (by first | exact gr_d _ | exact gr_d1 | exact gr_alloc gr_d1 _ | exact gr_alloc (gr_d _) _ | exact gr_alloc (gr_refl _ _) _ | exact gr_refl _ _)) (by omega)).mono ?_; rintro e wc hc; obtain ⟨vc, rfl, pc, gc⟩ := hc.good HB.out; obtain ⟨ck1, co1, cl1, cc1, co2, cl2, cc2, ck2, co3, cl3, cc3, co4, cl4, cc4, rfl, _, _⟩ := pc.letters; have KP := gr_none (by first | exact gr_d _ | exact gr_d1 | exact gr_alloc gr_d1 _ | exact gr_alloc (gr_d _) _ | exact gr_alloc (gr_refl _ _) _ | exact gr_refl _ _) gc; have GG : W2.grownBy wc none := gr_none (by first | exact gr_none GG (gr_d _) | exact gr_none GG gr_d1 | exact GG | exact gr_alloc GG _ | exact gr_alloc (gr_none GG gr_d1) _ | exact gr_alloc (gr_none GG (gr_d _)) _) gc; clear KP; have hs_c : W2.heap.size ≤ wc.heap.size := GG.size; have hu_c0 : ¬ wc.heap.size = w.heap.size := (by omega); have hv_c0 : ¬ w.heap.size = wc.heap.size := (by omega); have hu_c1 : ¬ wc.heap.size = w1.heap.size := (by omega); have hv_c1 : ¬ w1.heap.size = wc.heap.size := (by omega); obtain ⟨c_z0, c_z1, c_z2, c_z3, c_z4, c_z5, c_zf0, c_zf1, c_zf2, c_zf3, c_zf4, c_zf5⟩ := (B2Z.out wc GG).c6; obtain ⟨c_o0, c_o1, c_o2, c_o3, c_o4, c_o5, c_of0, c_of1, c_of2, c_of3, c_of4, c_of5⟩ := (BO.out wc GG).c6; (first | (have BA := BA.keep0 gc; obtain ⟨n_c0, n_c1, n_c2, n_c3, n_c4, n_c5, n_cf0, n_cf1, n_cf2, n_cf3, n_cf4, n_cf5⟩ := BA.c6) | (have BA := (boxNew' (World.drew W2) #[.bool false, .slice none 0 0, .slice none 0 0, .bool false, .slice none 0 0, .slice none 0 0] 119 W2.heap.size rfl).keep0 gc; obtain ⟨n_c0, n_c1, n_c2, n_c3, n_c4, n_c5, n_cf0, n_cf1, n_cf2, n_cf3, n_cf4, n_cf5⟩ := BA.c6) | (have BA := (boxNew _ #[.bool false, .slice none 0 0, .slice none 0 0, .bool false, .slice none 0 0, .slice none 0 0] 119).keep0 gc; obtain ⟨n_c0, n_c1, n_c2, n_c3, n_c4, n_c5, n_cf0, n_cf1, n_cf2, n_cf3, n_cf4, n_cf5⟩ := BA.c6) | skip)))
      all_goals
        have HGd := hide GG
        have PC : Hid (ZQ wc (.agg #[.bool ck1, .slice co1 cl1 cc1, .slice co2 cl2 cc2, .bool ck2, .slice co3 cl3 cc3, .slice co4 cl4 cc4]) (cdR (1 + p) q (1 - p) (-q)) (cdI (1 + p) q (1 - p) (-q)) (2 * (1 + L + 2) + 6 * (1 + L + 2) + 10)) := pc
        go_wp2
        go_meet
        first
          | (have BA2 := BA; exact ⟨_, (by first | exact Nat.le_refl _ | omega | (simp; done) | (simp; omega)), rfl, rfl, gr_set (gr_set (gr_set (gr_set (gr_set (gr_set (HGd.out) _ _ (by first | (simp; done) | (simp; omega))) _ _ (by first | (simp; done) | (simp; omega))) _ _ (by first | (simp; done) | (simp; omega))) _ _ (by first | (simp; done) | (simp; omega))) _ _ (by first | (simp; done) | (simp; omega))) _ _ (by first | (simp; done) | (simp; omega)), _, _, _, _, _, _, BA2.set6, PC.out.kept (BA2.kept6 _ _ _ _ _ _ (noWd6 _ _ _ _ _ _ _ _ _ _ _ _ _ _))⟩)
          | exact ⟨_, HGd.out.size, rfl, rfl, gr_alloc HGd.out _, _, _, _, _, _, _, boxNew _ _ _, PC.out.keep0 (gr_alloc (gr_refl _ _) _)⟩
    case rest =>
      obtain ⟨bx, hbx, rfl, rfl, gc, c0, c1, c2, c3, c4, c5, bc, pc⟩ := hcut.out
      obtain ⟨ck1, co1, cl1, cc1, co2, cl2, cc2, ck2, co3, cl3, cc3, co4, cl4, cc4, e, _, _⟩ := pc.letters
      simp only [Value.agg.injEq, Array.mk.injEq, List.cons.injEq, and_true] at e
      obtain ⟨rfl, rfl, rfl, rfl, rfl, rfl⟩ := e
      have PC := hide pc
      have GC := hide gc
      obtain ⟨k0, k1, k2, k3, k4, k5, kf0, kf1, kf2, kf3, kf4, kf5⟩ := bc.c6
      obtain ⟨m0, m1, m2, mf0, mf1, mf2⟩ := (B2L.out wc gc).c3
      have HL3 := hide (HL.out.keep0 (gr_none GA.out gc))
      clear hcut pc gc bc z0 z1 z2 z3 z4 z5 zf0 zf1 zf2 zf3 zf4 zf5 o0 o1 o2 o3 o4 o5 of0 of1 of2 of3 of4 of5
      go_wp2_with fail
      refine (zTimes_at _ _ (cdR (1 + p) q (1 - p) (-q)) (cdI (1 + p) q (1 - p) (-q)) l 0 (2 * (1 + L + 2) + 6 * (1 + L + 2) + 10) M _ PC.out (ZQ.real HL3.out) (by omega)).mono ?_
      rintro e w5 ⟨v5, rfl, p5, g5⟩
      obtain ⟨ek1, eo1, el1, ec1, eo2, el2, ec2, ek2, eo3, el3, ec3, eo4, el4, ec4, rfl, _, _⟩ := p5.letters
      have P5 := hide ((p5.tim).mono (show _ ≤ 16 * L + 2 * M + 80 by omega))
      have G5 := hide (gr_none GC.out g5)
      clear p5 g5
      have BR5 := hide (B2R.out w5 G5.out)
      obtain ⟨t0, t1, t2, t3, t4, t5, tf0, tf1, tf2, tf3, tf4, tf5⟩ := BR5.out.c6
      go_wp2
      refine bodyPost_ret (v := .tuple #[.agg #[.bool ek1, .slice eo1 el1 ec1, .slice eo2 el2 ec2, .bool ek2, .slice eo3 el3 ec3, .slice eo4 el4 ec4], .int .i64 0]) (by first | (simp [results, Tryz.results77, go_sem, t0, t1, t2, t3, t4, t5]; done) | (simp [results, Tryz.results77, go_sem, t0, t1, t2, t3, t4, t5]; rfl)) rfl ?_
      exact ⟨gr_set (gr_set (gr_set (gr_set (gr_set (gr_set (gr_none GA.out G5.out) _ _ (by first | (simp; done) | (simp; omega))) _ _ (by first | (simp; done) | (simp; omega))) _ _ (by first | (simp; done) | (simp; omega))) _ _ (by first | (simp; done) | (simp; omega))) _ _ (by first | (simp; done) | (simp; omega))) _ _ (by first | (simp; done) | (simp; omega)), _, _, rfl, .inr ⟨hn, rfl, P5.out.kept (BR5.out.kept6 _ _ _ _ _ _ (noWd6 _ _ _ _ _ _ _ _ _ _ _ _ _ _))⟩⟩
end Go.Proofs.YtdpagdlmpajjkafGreatDoor
