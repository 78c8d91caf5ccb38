/- voltaiclaw: complex numbers of the reference's: ofZ, square, z. -/
import Derived.Test.YtnpfjnkmpbmgeaaGreatDoorXVRef
import Derived.Test.YtnpfjnkmpbmgeaaGreatDoorXZo
namespace Go.Proofs.YtnpfjnkmpbmgeaaGreatDoor
open Go.RowKit
set_option linter.unusedVariables false
set_option linter.unusedSimpArgs false
def CXE (w : World) (p q : Rat) (L : Nat) (e : Ending) (w' : World) : Prop := ∃ bx bY, e = .returned (.agg #[.pointer (some ⟨bx, 0, none⟩), .pointer (some ⟨bY, 0, none⟩)]) ∧ RV w' bx p L ∧ RV w' bY q L ∧ w.grownBy w' none
theorem noWdP (a b : Option Addr) : NoWd #[.pointer a, .pointer b] := by
  intro i x
  match i with
  | 0 => simp
  | 1 => simp
  | _ + 2 => simp
theorem Ws.other2 {w : World} {b i : Nat} {cs : Array Value} {v x : Value} {xs : List Nat} (hb : BoxC w b cs) (hn : NoWd cs) (h : Ws w v xs) : Ws (w.setCell ⟨b, i, none⟩ x) v xs := by
  refine ⟨h.sm, ?_⟩
  rcases h.sh with h1 | ⟨g, off, cap, rfl, hl, h2, h3, hc⟩
  · exact .inl h1
  · exact .inr ⟨g, off, cap, rfl, by simpa using hl, h2, h3, fun j hj => (hb.kept hn i x).2 _ _ (hc j hj)⟩
theorem IntAt.set2 {w : World} {b i : Nat} {cs : Array Value} {x : Value} {g o L : Nat} {z : Int} (hb : BoxC w b cs) (hn : NoWd cs) (hne : g ≠ b) (h : IntAt w g o z L) : IntAt (w.setCell ⟨b, i, none⟩ x) g o z L := by
  obtain ⟨neg, v, h1, ⟨xs, h2, h3⟩, h4⟩ := h
  have e := heap_setCell_other w ⟨b, i, none⟩ g x hne
  exact ⟨neg, v, ⟨(World.cell?_of_block (a := ⟨g, o, none⟩) e).trans h1.c0, (World.cell?_of_block (a := ⟨g, o + 1, none⟩) e).trans h1.c1, (World.frozen?_of_block (a := ⟨g, o, none⟩) e).trans h1.f0, (World.frozen?_of_block (a := ⟨g, o + 1, none⟩) e).trans h1.f1⟩, ⟨xs, h2.other2 hb hn, h3⟩, h4⟩
theorem RV.apartP {w : World} {b g : Nat} {q : Rat} {L : Nat} {u v : Option Addr} (h : RV w g q L) (hb : BoxC w b #[.pointer u, .pointer v]) : g ≠ b := by
  intro e
  subst e
  have hz : ∃ z, IntAt w g 0 z L := by
    rcases h with h | ⟨_, h⟩
    · exact ⟨_, h.1⟩
    · exact ⟨_, h.1⟩
  obtain ⟨z, neg, v', h1, _⟩ := hz
  have k := h1.c0
  rw [hb.cell 0] at k
  simp at k
theorem RV.set1 {w : World} {b i : Nat} {x : Value} {g L : Nat} {q : Rat} {cs : Array Value} (hb : BoxC w b cs) (hn : NoWd cs) (hne : g ≠ b) (h : RV w g q L) : RV (w.setCell ⟨b, i, none⟩ x) g q L := by
  rcases h with h | ⟨e, h⟩
  · exact .inl ⟨h.1.set2 hb hn hne, h.2.1.set2 hb hn hne, h.2.2⟩
  · exact .inr ⟨e, h.1.set2 hb hn hne, h.2.set2 hb hn hne⟩
theorem RV.put {w : World} {b : Nat} {g L : Nat} {q : Rat} {u v u' v' : Option Addr} (h : RV w g q L) (hb : BoxC w b #[.pointer u, .pointer v]) : RV ((w.setCell ⟨b, 0, none⟩ (.pointer u')).setCell ⟨b, 1, none⟩ (.pointer v')) g q L :=
  RV.set1 (hb.set 0 (.pointer u')) (noWdP _ _) (h.apartP hb) (RV.set1 hb (noWdP _ _) (h.apartP hb) h)
set_option maxHeartbeats 8000000 in
theorem cxOf_at (s t : ByteArray) (p q : Rat) (m : Int) (L : Nat) (w : World) (hp : p = ofR s.data.toList) (hq : q = ofR t.data.toList) (hs : s.size ≤ 1000000000) (ht : t.size ≤ 1000000000) (f1 : FitW L p) (f2 : FitW L q) (hml : w.cell? ⟨0, 0, none⟩ = some (.int .i64 m)) :
    Calls Tryz.prog 8 #[.agg #[.string s, .string t]] w fun e w' => CXE w p q L e w' := by
  have HP := hide hp
  have HQ := hide hq
  have F1 := hide f1
  have F2 := hide f2
  have HM := hide hml
  clear hp hq f1 f2 hml
  obtain ⟨W, hW⟩ : ∃ W, W = ((w.alloc (Obj.cells #[.string s, .string t] 24)).alloc (Obj.cells #[.pointer none, .pointer none] 32)) := ⟨_, rfl⟩
  have GW : Hid (w.grownBy W none) := by rw [hW]; exact gr_alloc (gr_alloc (gr_refl _ _) _) _
  have BX : Hid (∀ wx, W.grownBy wx none → BoxC wx (w.heap.size) #[.string s, .string t]) := by
    intro wx hg
    rw [hW] at hg
    have h0 := (boxNew' w #[.string s, .string t] 24 (w.heap.size) (by simp))
    exact ((h0).keep0 (gr_alloc (gr_refl _ _) _)).keep0 hg
  have BR : Hid (∀ wx, W.grownBy wx none → BoxC wx (w.heap.size + 1) #[.pointer none, .pointer none]) := by
    intro wx hg
    rw [hW] at hg
    have h0 := (boxNew' (w.alloc (Obj.cells #[.string s, .string t] 24)) #[.pointer none, .pointer none] 32 (w.heap.size + 1) (by simp))
    exact (h0).keep0 hg
  have hne1_0 : ¬ w.heap.size + 1 = w.heap.size := by omega
  have hnf1_0 : ¬ w.heap.size = w.heap.size + 1 := by omega
  obtain ⟨x0, x1, xf0, xf1⟩ := (BX.out W (gr_refl _ _)).c2
  go_enter Tryz.func8, Tryz.ntmps8
  go_wp2
  rw [← hW]
  clear hW
  have GG : W.grownBy W none := gr_refl _ _
  go_region_held3 (fun w' => w'.cell? ⟨w.heap.size, 0, none⟩ = some (.string s) ∧ w'.cell? ⟨w.heap.size, 1, none⟩ = some (.string t)) (go_keep)
    (first | (go_at_call_of 9 (Value.string s); refine (rOfV_at s p m L _ HP.out hs F1.out (gr_cell (gr_none GW.out (by first | exact gr_none GG (gr_d _) | exact gr_none GG gr_d1 | exact GG | exact gr_alloc GG _ | exact gr_alloc (gr_none GG gr_d1) _ | exact gr_alloc (gr_none GG (gr_d _)) _)) HM.out)).mono ?_; rintro e wa ⟨ba, rfl, pa, ga⟩; have KP := gr_none (by first | exact gr_d _ | exact gr_d1 | exact gr_alloc gr_d1 _ | exact gr_alloc (gr_d _) _ | exact gr_alloc (gr_refl _ _) _ | exact gr_refl _ _) ga; have GG : W.grownBy wa none := gr_none (by first | exact gr_none GG (gr_d _) | exact gr_none GG gr_d1 | exact GG | exact gr_alloc GG _ | exact gr_alloc (gr_none GG gr_d1) _ | exact gr_alloc (gr_none GG (gr_d _)) _) ga; clear KP; obtain ⟨a_x0, a_x1, a_xf0, a_xf1⟩ := (BX.out wa GG).c2; obtain ⟨a_r0, a_r1, a_rf0, a_rf1⟩ := (BR.out wa GG).c2) | (go_at_call_of 9 (Value.string t); refine (rOfV_at t q m L _ HQ.out ht F2.out (gr_cell (gr_none GW.out (by first | exact gr_none GG (gr_d _) | exact gr_none GG gr_d1 | exact GG | exact gr_alloc GG _ | exact gr_alloc (gr_none GG gr_d1) _ | exact gr_alloc (gr_none GG (gr_d _)) _)) HM.out)).mono ?_; rintro e wb ⟨bb, rfl, pb, gb⟩; have KP := gr_none (by first | exact gr_d _ | exact gr_d1 | exact gr_alloc gr_d1 _ | exact gr_alloc (gr_d _) _ | exact gr_alloc (gr_refl _ _) _ | exact gr_refl _ _) gb; have GG : W.grownBy wb none := gr_none (by first | exact gr_none GG (gr_d _) | exact gr_none GG gr_d1 | exact GG | exact gr_alloc GG _ | exact gr_alloc (gr_none GG gr_d1) _ | exact gr_alloc (gr_none GG (gr_d _)) _) gb; (try have pa := pa.keep0 KP); clear KP; obtain ⟨b_x0, b_x1, b_xf0, b_xf1⟩ := (BX.out wb GG).c2; obtain ⟨b_r0, b_r1, b_rf0, b_rf1⟩ := (BR.out wb GG).c2))
  all_goals
    have P1 := hide pa
    have P2 := hide pb
    have HGd := hide GG
    clear pa pb
    go_wp2
    refine bodyPost_ret (v := .agg #[.pointer (some ⟨ba, 0, none⟩), .pointer (some ⟨bb, 0, none⟩)]) (by first | (simp [results, Tryz.results8, go_sem, b_r0, b_r1]; done) | (simp [results, Tryz.results8, go_sem, b_r0, b_r1]; rfl)) rfl ?_
    exact ⟨_, _, rfl, P1.out.put (BR.out _ HGd.out), P2.out.put (BR.out _ HGd.out), gr_set (gr_set (gr_none GW.out HGd.out) _ _ (by first | (simp; done) | (simp; omega))) _ _ (by first | (simp; done) | (simp; omega))⟩
set_option maxHeartbeats 8000000 in
theorem square_at (bx bY : Nat) (p q : Rat) (L : Nat) (w : World) (h1 : RV w bx p L) (h3 : RV w bY q L) (h2 : 2 ≤ L) (hL : L ≤ 900000000000) :
    Calls Tryz.prog 13 #[.agg #[.pointer (some ⟨bx, 0, none⟩), .pointer (some ⟨bY, 0, none⟩)]] w fun e w' => ∃ b, e = .returned (.pointer (some ⟨b, 0, none⟩)) ∧ RQ w' b (p * p + q * q) (4 * L + 7) ∧ w.grownBy w' none := by
  have H1 := hide h1
  have H2 := hide h3
  clear h1 h3
  obtain ⟨W, hW⟩ : ∃ W, W = (w.alloc (Obj.cells #[.pointer (some ⟨bx, 0, none⟩), .pointer (some ⟨bY, 0, none⟩)] 32)) := ⟨_, rfl⟩
  have GW : Hid (w.grownBy W none) := by rw [hW]; exact gr_alloc (gr_refl _ _) _
  have BX : Hid (∀ wx, W.grownBy wx none → BoxC wx (w.heap.size) #[.pointer (some ⟨bx, 0, none⟩), .pointer (some ⟨bY, 0, none⟩)]) := by
    intro wx hg
    rw [hW] at hg
    have h0 := (boxNew' w #[.pointer (some ⟨bx, 0, none⟩), .pointer (some ⟨bY, 0, none⟩)] 32 (w.heap.size) (by simp))
    exact (h0).keep0 hg
  obtain ⟨x0, x1, xf0, xf1⟩ := (BX.out W (gr_refl _ _)).c2
  go_enter Tryz.func13, Tryz.ntmps13
  go_wp2
  rw [← hW]
  clear hW
  have GG : W.grownBy W none := gr_refl _ _
  go_region_held3 (fun w' => w'.cell? ⟨w.heap.size, 0, none⟩ = some (.pointer (some ⟨bx, 0, none⟩)) ∧ w'.cell? ⟨w.heap.size, 1, none⟩ = some (.pointer (some ⟨bY, 0, none⟩))) (go_keep)
    (first | (go_at_call_of 37 (Value.pointer (some ⟨bx, 0, none⟩)); refine (rMulSX_at bx bx p p L L _ ((H1.out.keep0 (gr_none GW.out (by first | exact gr_none GG (gr_d _) | exact gr_none GG gr_d1 | exact GG | exact gr_alloc GG _ | exact gr_alloc (gr_none GG gr_d1) _ | exact gr_alloc (gr_none GG (gr_d _)) _))).x h2) ((H1.out.keep0 (gr_none GW.out (by first | exact gr_none GG (gr_d _) | exact gr_none GG gr_d1 | exact GG | exact gr_alloc GG _ | exact gr_alloc (gr_none GG gr_d1) _ | exact gr_alloc (gr_none GG (gr_d _)) _))).x h2) (by omega)).mono ?_; rintro e wa ⟨ba, rfl, pa, ga, _⟩; have KP := gr_none (by first | exact gr_d _ | exact gr_d1 | exact gr_alloc gr_d1 _ | exact gr_alloc (gr_d _) _ | exact gr_alloc (gr_refl _ _) _ | exact gr_refl _ _) ga; have GG : W.grownBy wa none := gr_none (by first | exact gr_none GG (gr_d _) | exact gr_none GG gr_d1 | exact GG | exact gr_alloc GG _ | exact gr_alloc (gr_none GG gr_d1) _ | exact gr_alloc (gr_none GG (gr_d _)) _) ga; clear KP; obtain ⟨a_x0, a_x1, a_xf0, a_xf1⟩ := (BX.out wa GG).c2) | (go_at_call_of 37 (Value.pointer (some ⟨bY, 0, none⟩)); refine (rMulSX_at bY bY q q L L _ ((H2.out.keep0 (gr_none GW.out (by first | exact gr_none GG (gr_d _) | exact gr_none GG gr_d1 | exact GG | exact gr_alloc GG _ | exact gr_alloc (gr_none GG gr_d1) _ | exact gr_alloc (gr_none GG (gr_d _)) _))).x h2) ((H2.out.keep0 (gr_none GW.out (by first | exact gr_none GG (gr_d _) | exact gr_none GG gr_d1 | exact GG | exact gr_alloc GG _ | exact gr_alloc (gr_none GG gr_d1) _ | exact gr_alloc (gr_none GG (gr_d _)) _))).x h2) (by omega)).mono ?_; rintro e wb ⟨bb, rfl, pb, gb, _⟩; have KP := gr_none (by first | exact gr_d _ | exact gr_d1 | exact gr_alloc gr_d1 _ | exact gr_alloc (gr_d _) _ | exact gr_alloc (gr_refl _ _) _ | exact gr_refl _ _) gb; have GG : W.grownBy wb none := gr_none (by first | exact gr_none GG (gr_d _) | exact gr_none GG gr_d1 | exact GG | exact gr_alloc GG _ | exact gr_alloc (gr_none GG gr_d1) _ | exact gr_alloc (gr_none GG (gr_d _)) _) gb; (try have pa := pa.keep0 KP); clear KP; obtain ⟨b_x0, b_x1, b_xf0, b_xf1⟩ := (BX.out wb GG).c2) | (go_at_call 25; refine (rAddS_at _ _ (p * p) (q * q) (L + L + 2) (L + L + 2) _ (pa.keep0 (by first | exact gr_d _ | exact gr_d1 | exact gr_alloc gr_d1 _ | exact gr_alloc (gr_d _) _ | exact gr_alloc (gr_refl _ _) _ | exact gr_refl _ _)).x (pb.keep0 (by first | exact gr_d _ | exact gr_d1 | exact gr_alloc gr_d1 _ | exact gr_alloc (gr_d _) _ | exact gr_alloc (gr_refl _ _) _ | exact gr_refl _ _)).x (by omega)).mono ?_; rintro e wc ⟨bc, rfl, pc, gc, _⟩; have KP := gr_none (by first | exact gr_d _ | exact gr_d1 | exact gr_alloc gr_d1 _ | exact gr_alloc (gr_d _) _ | exact gr_alloc (gr_refl _ _) _ | exact gr_refl _ _) gc; have GG : W.grownBy wc none := gr_none (by first | exact gr_none GG (gr_d _) | exact gr_none GG gr_d1 | exact GG | exact gr_alloc GG _ | exact gr_alloc (gr_none GG gr_d1) _ | exact gr_alloc (gr_none GG (gr_d _)) _) gc; (try have pa := pa.keep0 KP); (try have pb := pb.keep0 KP); clear KP; obtain ⟨c_x0, c_x1, c_xf0, c_xf1⟩ := (BX.out wc GG).c2))
  all_goals
    have P1 := hide (pc.mono (show _ ≤ 4 * L + 7 by omega))
    have HGd := hide GG
    clear pa pb pc
    go_wp2
    go_ret
    exact ⟨_, rfl, P1.out, gr_none GW.out HGd.out⟩
set_option maxHeartbeats 8000000 in
theorem cxZ_at (bx bY : Nat) (p q : Rat) (L : Nat) (w : World) (h1 : RV w bx p L) (h2 : RV w bY q L) (hL : L ≤ 100000000000) :
    Calls Tryz.prog 23 #[.agg #[.pointer (some ⟨bx, 0, none⟩), .pointer (some ⟨bY, 0, none⟩)]] w fun e w' => e = .returned (.agg #[.string ⟨(qtext p).toArray⟩, .string ⟨(qtext q).toArray⟩]) ∧ w.grownBy w' none := by
  have H1 := hide h1
  have H2 := hide h2
  clear h1 h2
  obtain ⟨W, hW⟩ : ∃ W, W = ((w.alloc (Obj.cells #[.pointer (some ⟨bx, 0, none⟩), .pointer (some ⟨bY, 0, none⟩)] 32)).alloc (Obj.cells #[.string ⟨#[]⟩, .string ⟨#[]⟩] 24)) := ⟨_, rfl⟩
  have GW : Hid (w.grownBy W none) := by rw [hW]; exact gr_alloc (gr_alloc (gr_refl _ _) _) _
  have BX : Hid (∀ wx, W.grownBy wx none → BoxC wx (w.heap.size) #[.pointer (some ⟨bx, 0, none⟩), .pointer (some ⟨bY, 0, none⟩)]) := by
    intro wx hg
    rw [hW] at hg
    have h0 := (boxNew' w #[.pointer (some ⟨bx, 0, none⟩), .pointer (some ⟨bY, 0, none⟩)] 32 (w.heap.size) (by simp))
    exact ((h0).keep0 (gr_alloc (gr_refl _ _) _)).keep0 hg
  have BR : Hid (∀ wx, W.grownBy wx none → BoxC wx (w.heap.size + 1) #[.string ⟨#[]⟩, .string ⟨#[]⟩]) := by
    intro wx hg
    rw [hW] at hg
    have h0 := (boxNew' (w.alloc (Obj.cells #[.pointer (some ⟨bx, 0, none⟩), .pointer (some ⟨bY, 0, none⟩)] 32)) #[.string ⟨#[]⟩, .string ⟨#[]⟩] 24 (w.heap.size + 1) (by simp))
    exact (h0).keep0 hg
  have hne1_0 : ¬ w.heap.size + 1 = w.heap.size := by omega
  have hnf1_0 : ¬ w.heap.size = w.heap.size + 1 := by omega
  obtain ⟨x0, x1, xf0, xf1⟩ := (BX.out W (gr_refl _ _)).c2
  go_enter Tryz.func23, Tryz.ntmps23
  go_wp2
  rw [← hW]
  clear hW
  have GG : W.grownBy W none := gr_refl _ _
  go_region_held3 (fun w' => w'.cell? ⟨w.heap.size, 0, none⟩ = some (.pointer (some ⟨bx, 0, none⟩)) ∧ w'.cell? ⟨w.heap.size, 1, none⟩ = some (.pointer (some ⟨bY, 0, none⟩))) (go_keep)
    (first | (go_at_call_of 55 (Value.pointer (some ⟨bx, 0, none⟩)); refine (rTV_at bx p L _ (H1.out.keep0 (gr_none GW.out (by first | exact gr_none GG (gr_d _) | exact gr_none GG gr_d1 | exact GG | exact gr_alloc GG _ | exact gr_alloc (gr_none GG gr_d1) _ | exact gr_alloc (gr_none GG (gr_d _)) _))) hL).mono ?_; rintro e wa ⟨rfl, ga⟩; have GG : W.grownBy wa none := gr_none (by first | exact gr_none GG (gr_d _) | exact gr_none GG gr_d1 | exact GG | exact gr_alloc GG _ | exact gr_alloc (gr_none GG gr_d1) _ | exact gr_alloc (gr_none GG (gr_d _)) _) ga; obtain ⟨a_x0, a_x1, a_xf0, a_xf1⟩ := (BX.out wa GG).c2; obtain ⟨a_r0, a_r1, a_rf0, a_rf1⟩ := (BR.out wa GG).c2) | (go_at_call_of 55 (Value.pointer (some ⟨bY, 0, none⟩)); refine (rTV_at bY q L _ (H2.out.keep0 (gr_none GW.out (by first | exact gr_none GG (gr_d _) | exact gr_none GG gr_d1 | exact GG | exact gr_alloc GG _ | exact gr_alloc (gr_none GG gr_d1) _ | exact gr_alloc (gr_none GG (gr_d _)) _))) hL).mono ?_; rintro e wb ⟨rfl, gb⟩; have GG : W.grownBy wb none := gr_none (by first | exact gr_none GG (gr_d _) | exact gr_none GG gr_d1 | exact GG | exact gr_alloc GG _ | exact gr_alloc (gr_none GG gr_d1) _ | exact gr_alloc (gr_none GG (gr_d _)) _) gb; obtain ⟨b_x0, b_x1, b_xf0, b_xf1⟩ := (BX.out wb GG).c2; obtain ⟨b_r0, b_r1, b_rf0, b_rf1⟩ := (BR.out wb GG).c2))
  all_goals
    have HGd := hide GG
    go_wp2
    refine bodyPost_ret (v := .agg #[.string ⟨(qtext p).toArray⟩, .string ⟨(qtext q).toArray⟩]) (by first | (simp [results, Tryz.results23, go_sem, b_r0, b_r1]; done) | (simp [results, Tryz.results23, go_sem, b_r0, b_r1]; rfl)) rfl ?_
    exact ⟨rfl, gr_set (gr_set (gr_none GW.out HGd.out) _ _ (by first | (simp; done) | (simp; omega))) _ _ (by first | (simp; done) | (simp; omega))⟩
end Go.Proofs.YtnpfjnkmpbmgeaaGreatDoor
