/- voltaiclaw: number, built: the closed fact. -/
import Derived.Test.YtbihhkcgiepgaaeGreatDoorYLad
import Derived.Test.YtbihhkcgiepgaaeGreatDoorYBld
import Derived.Test.YtbihhkcgiepgaaeGreatDoorMYh
namespace Go.Proofs.YtbihhkcgiepgaaeGreatDoor
open Go.RowKit
set_option linter.unusedVariables false
set_option linter.unusedSimpArgs false

theorem rowG_two (w : World) (t : TypeId) (x y : ByteArray) : RowG sv (w.alloc (Obj.cells #[.string x, .string y] t)) (.slice (some ⟨w.heap.size, 0, none⟩) 2 2) [x, y] := by
  refine ⟨_, 2, rfl, Nat.le_refl 2, by unfold maxLen; omega, fun i hi => ⟨w.heap.size, 0, rfl, by simp, ?_⟩⟩
  have hn := heap_alloc_new w (Obj.cells #[.string x, .string y] t)
  have hi3 : i < 2 := hi
  simp only [World.cell?, hn, Nat.zero_add]
  match i, hi3 with
  | 0, _ => rfl
  | 1, _ => rfl
theorem rowG_one (w : World) (t : TypeId) (x : ByteArray) : RowG sv (w.alloc (Obj.cells #[.string x] t)) (.slice (some ⟨w.heap.size, 0, none⟩) 1 1) [x] := by
  refine ⟨_, 1, rfl, Nat.le_refl 1, by unfold maxLen; omega, fun i hi => ⟨w.heap.size, 0, rfl, by simp, ?_⟩⟩
  have hn := heap_alloc_new w (Obj.cells #[.string x] t)
  obtain rfl : i = 0 := by
    have : i < 1 := hi
    omega
  simp only [World.cell?, hn, Nat.zero_add]
  rfl

/-- Texts keep where two slices of a new block are written. -/
theorem rowG_put2 {w : World} {g : Nat} {t : TypeId} {o0 o1 : Option Addr} {l0 c0 l1 c1 : Nat} (hb : w.heap[g]? = some (.cells #[.slice o0 l0 c0, .slice o1 l1 c1] t (0, 0))) (x y : Value) {v : Value} {ls : List ByteArray} (h : RowG sv w v ls) : RowG sv ((w.setCell ⟨g, 0, none⟩ x).setCell ⟨g, 1, none⟩ y) v ls := by
  obtain ⟨hg, _, _⟩ := rw_put2 hb x y
  obtain ⟨ao, cap, e, h1, h2, h3⟩ := h
  refine ⟨ao, cap, e, h1, h2, fun i hi => ?_⟩
  obtain ⟨b, off, e1, hbl, hc⟩ := h3 i hi
  refine ⟨b, off, e1, Nat.lt_of_lt_of_le hbl hg.size, hg.cell hc (fun e2 => ?_)⟩
  simp only [Option.some.injEq] at e2
  subst e2
  simp only [World.cell?, hb] at hc
  have hc' : (#[Value.slice o0 l0 c0, Value.slice o1 l1 c1] : Array Value)[off + i]? = some (sv ls[i]) := hc
  have hlt := (Array.getElem?_eq_some_iff.1 hc').1
  have hk : off + i = 0 ∨ off + i = 1 := by simp at hlt; omega
  rcases hk with e | e <;> (rw [e] at hc'; simp [sv] at hc')

set_option maxHeartbeats 4000000 in
set_option maxRecDepth 10000 in
theorem number_law (s : ByteArray) (w : World) :
    Calls Tryz.prog 62 #[.string s] w fun e w' => ∃ a b, e = .returned (.agg #[.slice (some a) 1 1, .slice (some b) 1 1]) ∧ RowG sv w' (.slice (some a) 1 1) [s] ∧ RowG sv w' (.slice (some b) 1 1) [⟨#[49]⟩] ∧ w.grownBy w' none := by
  obtain ⟨W, hW⟩ : ∃ W, W = w.alloc (Obj.cells #[.slice none 0 0, .slice none 0 0] 46) := ⟨_, rfl⟩
  have GW : Hid (w.grownBy W none) := by rw [hW]; exact gr_alloc (gr_refl _ _) _
  have RES : Hid (∀ wx, W.grownBy wx none → wx.heap[w.heap.size]? = some (.cells #[.slice none 0 0, .slice none 0 0] 46 (0, 0))) := by
    intro wx hg
    rw [hW] at hg
    rw [hg.block w.heap.size (by simp) (by simp)]
    exact heap_alloc_new _ _
  obtain ⟨W2, hW2⟩ : ∃ W2, W2 = (W.alloc (Obj.cells #[.string s] 24)).alloc (Obj.cells #[.string ⟨#[49]⟩] 24) := ⟨_, rfl⟩
  have G2 : Hid (W.grownBy W2 none) := by rw [hW2]; exact gr_alloc (gr_alloc (gr_refl _ _) _) _
  have RB := hide (RES.out W2 G2.out)
  have R1 : Hid (RowG sv W2 (.slice (some ⟨W.heap.size, 0, none⟩) 1 1) [s]) := by rw [hW2]; exact (rowG_one W _ _).keep (gr_alloc (gr_refl _ _) _)
  have R2 : Hid (RowG sv W2 (.slice (some ⟨W.heap.size + 1, 0, none⟩) 1 1) [⟨#[49]⟩]) := by
    have h := rowG_one (W.alloc (Obj.cells #[.string s] 24)) 24 ⟨#[49]⟩
    have hs : (W.alloc (Obj.cells #[.string s] 24)).heap.size = W.heap.size + 1 := by simp
    rw [hs] at h
    rw [hW2]
    exact h
  obtain ⟨r0, r1, rf⟩ := two_cells RB.out
  have rf0 := rf 0
  have rf1 := rf 1
  clear rf
  go_enter Tryz.func62, Tryz.ntmps62
  go_upto_region 1 with fail
  rw [← hW]
  clear hW
  rw [hW2] at r0 r1 rf0 rf1
  go_wp2
  rw [← hW2]
  rw [← hW2] at r0 r1 rf0 rf1
  obtain ⟨z1, z2, z3⟩ := rw_put2 RB.out (.slice (some ⟨W.heap.size, 0, none⟩) 1 1) (.slice (some ⟨W.heap.size + 1, 0, none⟩) 1 1)
  refine bodyPost_ret (v := .agg #[.slice (some ⟨W.heap.size, 0, none⟩) 1 1, .slice (some ⟨W.heap.size + 1, 0, none⟩) 1 1]) (by first | (simp [results, Tryz.results62, go_sem, r0, r1]; done) | (simp [results, Tryz.results62, go_sem, r0, r1]; rfl)) rfl ?_
  exact ⟨_, _, rfl, rowG_put2 RB.out _ _ R1.out, rowG_put2 RB.out _ _ R2.out, gr_own2 (gr_none GW.out G2.out) z1 (fun b e => by cases e; exact Nat.le_refl _)⟩

theorem parts_two (w : World) (p q : Prt) (hz : p.v.size ≤ 600000000 ∧ q.v.size ≤ 600000000) : PartsAt (w.alloc (Obj.cells #[.int .i64 p.kind, .int .i64 p.a, .int .i64 p.b, .int .i64 p.c, .int .i64 p.d, .string p.v, .int .i64 q.kind, .int .i64 q.a, .int .i64 q.b, .int .i64 q.c, .int .i64 q.d, .string q.v] 68)) (.slice (some ⟨w.heap.size, 0, none⟩) 2 2) [p, q] := by
  have hn := heap_alloc_new w (Obj.cells #[.int .i64 p.kind, .int .i64 p.a, .int .i64 p.b, .int .i64 p.c, .int .i64 p.d, .string p.v, .int .i64 q.kind, .int .i64 q.a, .int .i64 q.b, .int .i64 q.c, .int .i64 q.d, .string q.v] 68)
  refine parts_of_cells (by simp) rfl (Nat.le_refl _) (by unfold maxLen; omega) (fun i hi => ?_) (fun j hj => ?_)
  · have hi2 : i = 0 ∨ i = 1 := by have : i < 2 := hi; omega
    rcases hi2 with rfl | rfl
    · exact hz.1
    · exact hz.2
  · simp only [World.cell?, hn, Option.isSome_none, Bool.false_eq_true, if_false]
    rw [← Array.getElem?_toList]
    rfl

def lb : List ByteArray := [⟨#[50]⟩, ⟨#[49]⟩]
theorem lb0 : polyQ lb 0 = 2 := by decide +kernel
theorem lb1 : polyQ lb 1 = 1 := by decide +kernel
theorem qt2 : (⟨(qtext 2).toArray⟩ : ByteArray) = ⟨#[50]⟩ := by
  have h : qtext 2 = [50] := by decide +kernel
  rw [h]
theorem bld2 : bldS 1 (polyQ lb) 2 2 = (3, 2, [⟨1, 1, 2, 0, 0, ⟨#[50]⟩⟩, ⟨3, 2, 0, 0, 0, ⟨#[49]⟩⟩]) := by
  have h1 : bldS 1 (polyQ lb) 2 1 = (3, 2, [newP 1 1 2 2]) := by
    rw [bldS, if_neg (by decide), if_neg (by decide), if_neg (by rw [lb0]; decide)]
    rw [lb0]
    rfl
  rw [bldS, if_pos (by decide), h1, lb1]
  show (3, 2, [newP 1 1 2 2] ++ [newP 3 ((2 : Nat) : Int) 0 1]) = _
  unfold newP
  rw [qt2, qt1]
  rfl

theorem build2 (v : Value) (w : World) (hv : RowG sv w v lb) (hml : MLen w) (ht : Tab10 w) :
    Calls Tryz.prog 30 #[v, .int .i64 1] w fun e w' => ∃ ao c, e = .returned (.tuple #[.agg #[.int .i64 3, .slice ao 2 c], .int .i64 0]) ∧ PartsAt w' (.slice ao 2 c) [⟨1, 1, 2, 0, 0, ⟨#[50]⟩⟩, ⟨3, 2, 0, 0, 0, ⟨#[49]⟩⟩] ∧ w.grownBy w' none := by
  refine (build_at v lb 1 3 w hv (fun _ => size_le (by decide)) (by decide) (by decide) hml ht).mono ?_
  rintro e w' ⟨g, h⟩
  rcases h with ⟨h, _⟩ | ⟨_, h, _⟩ | ⟨_, _, _, ⟨i, hi, h⟩, _⟩ | ⟨_, _, _, _, ao, c, rfl, h⟩
  · exact absurd h (by decide)
  · exact absurd h (by decide)
  · have hi2 : i = 0 ∨ i = 1 := by have : i < 2 := hi; omega
    rcases hi2 with rfl | rfl
    · rcases h with h | ⟨h, _⟩
      · rw [lb0] at h; exact absurd h (by decide)
      · rw [lb0] at h; exact absurd h (by decide)
    · rcases h with h | ⟨h, _⟩
      · rw [lb1] at h; exact absurd h (by decide)
      · rw [lb1] at h; exact absurd h (by decide)
  · have e2 : lb.length = 2 := rfl
    rw [e2, bld2] at h
    refine ⟨ao, c, by rw [e2, bld2]; rfl, ?_, g⟩
    refine h.parts ?_
    intro p hp
    simp only [List.mem_cons, List.not_mem_nil, or_false] at hp
    rcases hp with rfl | rfl <;> decide

set_option maxHeartbeats 8000000 in
set_option maxRecDepth 10000 in
theorem built_at (w : World) (hml : MLen w) (ht : Tab10 w) : Calls Tryz.prog 21 #[] w fun e w' => e = .returned (.bool true) ∧ w.grownBy w' none := by
  have HM := hide hml
  have HT := hide ht
  clear hml ht
  obtain ⟨W, hW⟩ : ∃ W, W = ((w.alloc (Obj.cells #[.string ⟨#[49]⟩, .string ⟨#[48]⟩, .string ⟨#[49]⟩] 24)).alloc (Obj.cells #[.string ⟨#[48]⟩, .string ⟨#[49]⟩] 24)).alloc (Obj.cells #[.slice (some ⟨w.heap.size, 0, none⟩) 3 3, .slice (some ⟨w.heap.size + 1, 0, none⟩) 2 2] 46) := ⟨_, rfl⟩
  have GW : Hid (w.grownBy W none) := by rw [hW]; exact gr_alloc (gr_alloc (gr_alloc (gr_refl _ _) _) _) _
  have RU : Hid (RowG sv W (.slice (some ⟨w.heap.size, 0, none⟩) 3 3) lu1) := by rw [hW]; exact ((rowG_three w _ _ _ _).keep (gr_alloc (gr_refl _ _) _)).keep (gr_alloc (gr_refl _ _) _)
  have RD : Hid (RowG sv W (.slice (some ⟨w.heap.size + 1, 0, none⟩) 2 2) ld1) := by
    have h := rowG_two (w.alloc (Obj.cells #[.string ⟨#[49]⟩, .string ⟨#[48]⟩, .string ⟨#[49]⟩] 24)) 24 ⟨#[48]⟩ ⟨#[49]⟩
    have hs : (w.alloc (Obj.cells #[.string ⟨#[49]⟩, .string ⟨#[48]⟩, .string ⟨#[49]⟩] 24)).heap.size = w.heap.size + 1 := by simp
    rw [hs] at h
    rw [hW]
    exact h.keep (gr_alloc (gr_refl _ _) _)
  have BX : Hid (∀ wx, W.grownBy wx none → wx.cell? ⟨w.heap.size + 1 + 1, 0, none⟩ = some (.slice (some ⟨w.heap.size, 0, none⟩) 3 3) ∧ wx.cell? ⟨w.heap.size + 1 + 1, 1, none⟩ = some (.slice (some ⟨w.heap.size + 1, 0, none⟩) 2 2) ∧ ∀ i, wx.frozen? ⟨w.heap.size + 1 + 1, i, none⟩ = false) := by
    intro wx hg
    rw [hW] at hg
    have hs : ((w.alloc (Obj.cells #[.string ⟨#[49]⟩, .string ⟨#[48]⟩, .string ⟨#[49]⟩] 24)).alloc (Obj.cells #[.string ⟨#[48]⟩, .string ⟨#[49]⟩] 24)).heap.size = w.heap.size + 1 + 1 := by simp
    refine two_cells (t := 46) ?_
    rw [← hs, hg.block _ (by simp) (by simp)]
    exact heap_alloc_new _ _
  go_enter Tryz.func21, Tryz.ntmps21
  go_upto_region 2 with fail
  rw [← hW]
  obtain ⟨s0, s1, _⟩ := BX.out W (gr_refl _ _)
  clear hW
  go_wp2_with fail
  refine (ladder1 _ _ 3 2 W RU.out RD.out (HM.out.keep0 GW.out) (HT.out.keep0 GW.out)).mono ?_
  rintro e w1 ⟨v1, rfl, a1, a2⟩
  have A1 := hide a1
  have A2 := hide a2
  obtain ⟨ao1, ac1, rfl, _, _, _⟩ := a1
  obtain ⟨t0, t1', _⟩ := BX.out w1 a2
  clear a2 s0 s1
  go_wp2_with fail
  refine (positive1 _ _ 3 2 w1 (RU.out.keep A2.out) (RD.out.keep A2.out) (HM.out.keep0 (gr_none GW.out A2.out)) (HT.out.keep0 (gr_none GW.out A2.out))).mono ?_
  rintro e w2 ⟨rfl, g2⟩
  have G2 := hide (gr_none A2.out g2)
  have A3 := hide (A1.out.keep g2)
  clear g2 t0 t1'
  go_wp2_with fail
  refine (number_law ⟨#[45, 49]⟩ w2).mono ?_
  rintro e w3 ⟨x3, y3, rfl, b1, b2, b3⟩
  have B1 := hide b1
  have B2 := hide b2
  have G3 := hide (gr_none G2.out b3)
  have A4 := hide (A3.out.keep b3)
  clear b1 b2 b3
  go_wp2_with fail
  refine (positive2 _ _ 1 1 w3 B1.out B2.out (HM.out.keep0 (gr_none GW.out G3.out)) (HT.out.keep0 (gr_none GW.out G3.out))).mono ?_
  rintro e w4 ⟨rfl, g4⟩
  have G4 := hide (gr_none G3.out g4)
  have A5 := hide (A4.out.keep g4)
  clear g4
  go_wp2_with fail
  obtain ⟨w5, hw5⟩ : ∃ w5, w5 = w4.alloc (Obj.cells #[.string ⟨#[50]⟩, .string ⟨#[49]⟩] 24) := ⟨_, rfl⟩
  have G5 : Hid (W.grownBy w5 none) := by rw [hw5]; exact gr_alloc G4.out _
  have R5 : Hid (RowG sv w5 (.slice (some ⟨w4.heap.size, 0, none⟩) 2 2) lb) := by rw [hw5]; exact rowG_two w4 _ _ _
  have A6 : Hid (RowG sv w5 (.slice ao1 [t1, t1].length ac1) [t1, t1]) := by rw [hw5]; exact A5.out.keep (gr_alloc (gr_refl _ _) _)
  rw [← hw5]
  clear hw5
  refine (build2 _ w5 R5.out (HM.out.keep0 (gr_none GW.out G5.out)) (HT.out.keep0 (gr_none GW.out G5.out))).mono ?_
  rintro e w6 ⟨po, pc, rfl, p1, p2⟩
  have P1 := hide p1
  have G6 := hide (gr_none G5.out p2)
  have A7 := hide (A6.out.keep p2)
  clear p1 p2
  go_upto_region 6 with fail
  obtain ⟨w7, hw7⟩ : ∃ w7, w7 = w6.alloc (Obj.cells #[.int .i64 3, .slice po 2 pc] 61) := ⟨_, rfl⟩
  have G7 : Hid (w6.grownBy w7 none) := by rw [hw7]; exact gr_alloc (gr_refl _ _) _
  have NX : Hid (∀ wx, w7.grownBy wx none → wx.cell? ⟨w6.heap.size, 0, none⟩ = some (.int .i64 3) ∧ wx.cell? ⟨w6.heap.size, 1, none⟩ = some (.slice po 2 pc) ∧ ∀ i, wx.frozen? ⟨w6.heap.size, i, none⟩ = false) := by
    intro wx hg
    rw [hw7] at hg
    exact two_cells (t := 61) (by rw [hg.block w6.heap.size (by simp) (by simp)]; exact heap_alloc_new _ _)
  rw [← hw7]
  have hs7 : w7.heap.size = w6.heap.size + 1 := by rw [hw7]; simp
  clear hw7
  have GG : w7.grownBy w7 none := gr_refl _ _
  obtain ⟨s0, s1, _⟩ := NX.out w7 GG
  have hlt7 : w6.heap.size < w7.heap.size := by omega
  clear hs7
  have A8 := hide (A7.out.keep G7.out)
  have P8 := hide (P1.out.keep G7.out)
  go_region_held3 (fun w' => w'.cell? ⟨w6.heap.size, 0, none⟩ = some (.int .i64 3) ∧ w'.cell? ⟨w6.heap.size, 1, none⟩ = some (.slice po 2 pc)) (go_keep)
    (first
      | (go_at_call 27; refine (equalQ_at _ _ [t1, t1] [t1, t1] _ (A8.out.keep (by first | exact GG | exact gr_none GG (gr_d _) | exact gr_none GG gr_d1 | exact gr_alloc GG _ | exact gr_alloc (gr_none GG gr_d1) _ | exact gr_alloc (gr_none GG (gr_d _)) _ | exact gr_none (gr_alloc GG _) gr_d1 | exact gr_none (gr_alloc GG _) (gr_d _))) (by first | exact rowG_two _ _ _ _ | exact (rowG_two _ _ _ _).keep gr_d1 | exact (rowG_two _ _ _ _).keep (gr_d _)) (by decide) (by decide)).mono ?_; rintro e wl ⟨rfl, gl⟩; rw [show decide ([t1, t1] = [t1, t1]) = true from decide_eq_true rfl]; have GG : w7.grownBy wl none := gr_none (by first | exact GG | exact gr_none GG (gr_d _) | exact gr_none GG gr_d1 | exact gr_alloc GG _ | exact gr_alloc (gr_none GG gr_d1) _ | exact gr_alloc (gr_none GG (gr_d _)) _ | exact gr_none (gr_alloc GG _) gr_d1 | exact gr_none (gr_alloc GG _) (gr_d _)) gl; obtain ⟨a0, a1, _⟩ := NX.out wl GG; have hll := GG.size; clear gl)
      | (go_at_call 34; refine (part_at _ _ _ _ _).mono ?_; rintro e wl ⟨rfl, gl⟩; have GG : w7.grownBy wl none := gr_none (by first | exact GG | exact gr_none GG (gr_d _) | exact gr_none GG gr_d1 | exact gr_alloc GG _ | exact gr_alloc (gr_none GG gr_d1) _ | exact gr_alloc (gr_none GG (gr_d _)) _ | exact gr_none (gr_alloc GG _) gr_d1 | exact gr_none (gr_alloc GG _) (gr_d _)) gl; obtain ⟨b0, b1, _⟩ := NX.out wl GG; have hll := GG.size; clear gl)
      | (go_at_call 32; refine (nets_at 3 po _ 2 pc 2 [⟨1, 1, 2, 0, 0, ⟨#[50]⟩⟩, ⟨3, 2, 0, 0, 0, ⟨#[49]⟩⟩] _ (P8.out.keep (by first | exact GG | exact gr_none GG (gr_d _) | exact gr_none GG gr_d1 | exact gr_alloc GG _ | exact gr_alloc (gr_none GG gr_d1) _ | exact gr_alloc (gr_none GG (gr_d _)) _ | exact gr_none (gr_alloc GG _) gr_d1 | exact gr_none (gr_alloc GG _) (gr_d _))) (by first | exact parts_two _ ⟨1, 1, 2, 0, 0, ⟨#[50]⟩⟩ ⟨3, 2, 0, 0, 0, ⟨#[49]⟩⟩ ⟨by decide, by decide⟩ | exact (parts_two _ ⟨1, 1, 2, 0, 0, ⟨#[50]⟩⟩ ⟨3, 2, 0, 0, 0, ⟨#[49]⟩⟩ ⟨by decide, by decide⟩).keep gr_d1) (by decide)).mono ?_; rintro e wl ⟨rfl, gl⟩; have GG : w7.grownBy wl none := gr_none (by first | exact GG | exact gr_none GG (gr_d _) | exact gr_none GG gr_d1 | exact gr_alloc GG _ | exact gr_alloc (gr_none GG gr_d1) _ | exact gr_alloc (gr_none GG (gr_d _)) _ | exact gr_none (gr_alloc GG _) gr_d1 | exact gr_none (gr_alloc GG _) (gr_d _)) gl; obtain ⟨c0, c1, _⟩ := NX.out wl GG; have hll := GG.size; clear gl))
  all_goals
    have HG := hide GG
    clear GG
    go_wp2
    go_ret
    exact ⟨rfl, gr_none (gr_none GW.out (gr_none G6.out G7.out)) HG.out⟩
end Go.Proofs.YtbihhkcgiepgaaeGreatDoor
