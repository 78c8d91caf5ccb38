/- frac: OfWord. -/
import Derived.Test.YtnpfjnkmpbmgeaaGreatDoorXFg
import Derived.Test.YtnpfjnkmpbmgeaaGreatDoorXFe
import Derived.Deep.RegionHeld3
import Derived.Deep.DeepCutAuto
namespace Go.Proofs.YtnpfjnkmpbmgeaaGreatDoor
open Go.RowKit
set_option linter.unusedVariables false
set_option linter.unusedSimpArgs false
set_option maxHeartbeats 4000000 in
theorem ofWord_at (x : Nat) (w : World) (hx : x < 4294967296) :
    Calls Tryz.prog 119 #[.int .u32 (x : Nat)] w fun e w' => FQE w ((x : Nat) : Rat) 1 e w' := by
  obtain ⟨W, hW⟩ : ∃ W, W = w.alloc (Obj.cells #[.bool false, .slice none 0 0, .slice none 0 0] 50) := ⟨_, rfl⟩
  have GW : Hid (w.grownBy W none) := by rw [hW]; exact gr_alloc (gr_refl _ _) _
  have RES : Hid (∀ wx, W.grownBy wx none → (wx.cell? ⟨w.heap.size, 0, none⟩ = some (.bool false) ∧ wx.cell? ⟨w.heap.size, 1, none⟩ = some (.slice none 0 0) ∧ wx.cell? ⟨w.heap.size, 2, none⟩ = some (.slice none 0 0) ∧ ∀ i, wx.frozen? ⟨w.heap.size, i, none⟩ = false) ∧ NoWords wx w.heap.size) := by
    intro wx hg
    rw [hW] at hg
    exact ⟨res_cells hg, noWords_res hg⟩
  go_enter Tryz.func119, Tryz.ntmps119
  go_upto_region 1 with fail
  rw [← hW]
  clear hW
  go_wp2_with fail
  refine (fword_num x W hx).mono ?_
  rintro e w2 ⟨v2, rfl, f1, f2, _⟩
  obtain ⟨fo, fl, fc, rfl, _, _, _⟩ := f1.shape
  obtain ⟨⟨r0, r1, r2, rf⟩, nw⟩ := RES.out w2 f2
  have rf0 := rf 0
  have rf1 := rf 1
  have rf2 := rf 2
  have F1 : Hid (FV w2 (.agg #[.bool false, .slice fo fl fc, .slice none 0 0]) false x 1 1) := ⟨_, _, rfl, f1, .inl ⟨rfl, rfl⟩, Nat.gcd_one_right _, fun h => by cases h⟩
  have F2 := hide f2
  have NW := hide nw
  clear rf f1 f2 nw
  go_wp2
  refine bodyPost_ret (v := .agg #[.bool false, .slice fo fl fc, .slice none 0 0]) (by first | (simp [results, Tryz.results119, go_sem, r0, r1, r2]; done) | (simp [results, Tryz.results119, go_sem, r0, r1, r2]; rfl)) rfl ?_
  refine ⟨_, rfl, ?_, gr_set (gr_set (gr_set (gr_none GW.out F2.out) _ _ (by simp)) _ _ (by simp)) _ _ (by simp)⟩
  unfold FQ
  have e1 : rB ((x : Nat) : Rat) = false := by unfold rB; rw [Rat.num_natCast]; simp
  have e2 : rN ((x : Nat) : Rat) = x := by unfold rN; rw [Rat.num_natCast]; rfl
  have e3 : ((x : Nat) : Rat).den = 1 := Rat.den_natCast x
  rw [e1, e2, e3]
  exact FV.other F1.out NW.out gr_three
end Go.Proofs.YtnpfjnkmpbmgeaaGreatDoor

namespace Go.Proofs.YtnpfjnkmpbmgeaaGreatDoor
open Go.RowKit
set_option linter.unusedVariables false
set_option linter.unusedSimpArgs false
theorem fq_zero (w : World) (L : Nat) : FQ w (.agg #[.bool (rB 0), .slice none 0 0, .slice none 0 0]) 0 L := by
  have e2 : rN 0 = 0 := rfl
  have e3 : (0 : Rat).den = 1 := rfl
  unfold FQ
  rw [e2, e3]
  exact ⟨_, _, rfl, ⟨[], Ws.nil _, rfl, rfl, by simp⟩, .inl ⟨rfl, rfl⟩, rfl, by decide⟩
theorem fq_zero' (w : World) (L : Nat) : FQ w (.agg #[.bool false, .slice none 0 0, .slice none 0 0]) 0 L := fq_zero w L
def BoxC (w : World) (b : Nat) (cs : Array Value) : Prop := ∃ T, w.heap[b]? = some (Obj.cells cs T (0, 0))
section
variable {w w' : World} {b b' : Nat} {cs : Array Value}
theorem BoxC.lt (h : BoxC w b cs) : b < w.heap.size := by
  obtain ⟨T, h⟩ := h
  exact (Array.getElem?_eq_some_iff.1 h).1
theorem BoxC.keep0 (h : BoxC w b cs) (g : w.grownBy w' none) : BoxC w' b cs := by
  have hl := h.lt
  obtain ⟨T, h⟩ := h
  exact ⟨T, by rw [g.block b hl (by simp)]; exact h⟩
theorem BoxC.keepO {r : Option Nat} (h : BoxC w b cs) (g : w.grownBy w' r) (hr : some b ≠ r) : BoxC w' b cs := by
  have hl := h.lt
  obtain ⟨T, h⟩ := h
  exact ⟨T, by rw [g.block b hl hr]; exact h⟩
theorem boxNew (w : World) (cs : Array Value) (T : TypeId) : BoxC (w.alloc (Obj.cells cs T)) w.heap.size cs := ⟨T, heap_alloc_new w _⟩
theorem boxNew' (w : World) (cs : Array Value) (T : TypeId) (b : Nat) (hb : w.heap.size = b) : BoxC (w.alloc (Obj.cells cs T)) b cs := hb ▸ boxNew w cs T
theorem BoxC.cell (h : BoxC w b cs) (i : Nat) : w.cell? ⟨b, i, none⟩ = cs[i]? := by
  obtain ⟨T, h⟩ := h
  simp [World.cell?, h]
theorem BoxC.fro (h : BoxC w b cs) (i : Nat) : w.frozen? ⟨b, i, none⟩ = false := by
  obtain ⟨T, h⟩ := h
  simp [World.frozen?, h]
theorem BoxC.set (h : BoxC w b cs) (i : Nat) (v : Value) : BoxC (w.setCell ⟨b, i, none⟩ v) b (cs.setIfInBounds i v) := by
  obtain ⟨T, h⟩ := h
  exact ⟨T, heap_setCell_same w b i cs T v h⟩
theorem BoxC.setO (h : BoxC w b cs) (i : Nat) (v : Value) (hb : b ≠ b') : BoxC (w.setCell ⟨b', i, none⟩ v) b cs := by
  obtain ⟨T, h⟩ := h
  exact ⟨T, by rw [heap_setCell_other w ⟨b', i, none⟩ b v hb]; exact h⟩
def NoWd (cs : Array Value) : Prop := ∀ (i x : Nat), cs[i]? ≠ some (Value.int .u32 (x : Nat))
theorem NoWd.at {cs : Array Value} (h : NoWd cs) (i x : Nat) : cs[i]? ≠ some (.int .u32 (x : Nat)) := h i x
theorem BoxC.kept (h : BoxC w b cs) (hn : NoWd cs) (i : Nat) (v : Value) : WKept w (w.setCell ⟨b, i, none⟩ v) := by
  obtain ⟨T, h⟩ := h
  exact WKept.set h (hn.at i) v
end
theorem noWd3 (b : Bool) (o1 o2 : Option Addr) (l1 c1 l2 c2 : Nat) : NoWd #[.bool b, .slice o1 l1 c1, .slice o2 l2 c2] := by
  intro i x
  match i with
  | 0 => simp
  | 1 => simp
  | 2 => simp
  | _ + 3 => simp
theorem noWd6 (b b' : Bool) (o1 o2 o3 o4 : Option Addr) (l1 c1 l2 c2 l3 c3 l4 c4 : Nat) : NoWd #[.bool b, .slice o1 l1 c1, .slice o2 l2 c2, .bool b', .slice o3 l3 c3, .slice o4 l4 c4] := by
  intro i x
  match i with
  | 0 => simp
  | 1 => simp
  | 2 => simp
  | 3 => simp
  | 4 => simp
  | 5 => simp
  | _ + 6 => simp
section
variable {w : World} {b : Nat} {a0 a1 a2 a3 a4 a5 x0 x1 x2 x3 x4 x5 : Value}
theorem BoxC.c2 (h : BoxC w b #[a0, a1]) : w.cell? ⟨b, 0, none⟩ = some a0 ∧ w.cell? ⟨b, 1, none⟩ = some a1 ∧ w.frozen? ⟨b, 0, none⟩ = false ∧ w.frozen? ⟨b, 1, none⟩ = false :=
  ⟨h.cell 0, h.cell 1, h.fro 0, h.fro 1⟩
theorem BoxC.c3 (h : BoxC w b #[a0, a1, a2]) : w.cell? ⟨b, 0, none⟩ = some a0 ∧ w.cell? ⟨b, 1, none⟩ = some a1 ∧ w.cell? ⟨b, 2, none⟩ = some a2 ∧ w.frozen? ⟨b, 0, none⟩ = false ∧ w.frozen? ⟨b, 1, none⟩ = false ∧ w.frozen? ⟨b, 2, none⟩ = false :=
  ⟨h.cell 0, h.cell 1, h.cell 2, h.fro 0, h.fro 1, h.fro 2⟩
theorem BoxC.c6 (h : BoxC w b #[a0, a1, a2, a3, a4, a5]) : w.cell? ⟨b, 0, none⟩ = some a0 ∧ w.cell? ⟨b, 1, none⟩ = some a1 ∧ w.cell? ⟨b, 2, none⟩ = some a2 ∧ w.cell? ⟨b, 3, none⟩ = some a3 ∧ w.cell? ⟨b, 4, none⟩ = some a4 ∧ w.cell? ⟨b, 5, none⟩ = some a5 ∧ w.frozen? ⟨b, 0, none⟩ = false ∧ w.frozen? ⟨b, 1, none⟩ = false ∧ w.frozen? ⟨b, 2, none⟩ = false ∧ w.frozen? ⟨b, 3, none⟩ = false ∧ w.frozen? ⟨b, 4, none⟩ = false ∧ w.frozen? ⟨b, 5, none⟩ = false :=
  ⟨h.cell 0, h.cell 1, h.cell 2, h.cell 3, h.cell 4, h.cell 5, h.fro 0, h.fro 1, h.fro 2, h.fro 3, h.fro 4, h.fro 5⟩
theorem BoxC.set2 (h : BoxC w b #[a0, a1]) : BoxC ((w.setCell ⟨b, 0, none⟩ x0).setCell ⟨b, 1, none⟩ x1) b #[x0, x1] := (h.set 0 x0).set 1 x1
theorem BoxC.set3 (h : BoxC w b #[a0, a1, a2]) : BoxC (((w.setCell ⟨b, 0, none⟩ x0).setCell ⟨b, 1, none⟩ x1).setCell ⟨b, 2, none⟩ x2) b #[x0, x1, x2] := ((h.set 0 x0).set 1 x1).set 2 x2
theorem BoxC.set6 (h : BoxC w b #[a0, a1, a2, a3, a4, a5]) : BoxC ((((((w.setCell ⟨b, 0, none⟩ x0).setCell ⟨b, 1, none⟩ x1).setCell ⟨b, 2, none⟩ x2).setCell ⟨b, 3, none⟩ x3).setCell ⟨b, 4, none⟩ x4).setCell ⟨b, 5, none⟩ x5) b #[x0, x1, x2, x3, x4, x5] := (((((h.set 0 x0).set 1 x1).set 2 x2).set 3 x3).set 4 x4).set 5 x5
end
section
variable {w : World} {b : Nat} {a0 a1 a2 a3 a4 a5 : Value} (x0 x1 x2 x3 x4 x5 : Value)
theorem BoxC.keptI {cs : Array Value} (h : BoxC w b cs) (i : Nat) (hn : ∀ x : Nat, cs[i]? ≠ some (.int .u32 (x : Nat))) (v : Value) : WKept w (w.setCell ⟨b, i, none⟩ v) := by
  obtain ⟨T, h⟩ := h
  exact WKept.set h hn v
theorem BoxC.kept3 (h : BoxC w b #[a0, a1, a2]) (hn : NoWd #[a0, a1, a2]) : WKept w (((w.setCell ⟨b, 0, none⟩ x0).setCell ⟨b, 1, none⟩ x1).setCell ⟨b, 2, none⟩ x2) :=
  ((h.keptI 0 (hn.at 0) x0).trans ((h.set 0 x0).keptI 1 (fun x => hn.at 1 x) x1)).trans (((h.set 0 x0).set 1 x1).keptI 2 (fun x => hn.at 2 x) x2)
theorem BoxC.kept6 (h : BoxC w b #[a0, a1, a2, a3, a4, a5]) (hn : NoWd #[a0, a1, a2, a3, a4, a5]) : WKept w ((((((w.setCell ⟨b, 0, none⟩ x0).setCell ⟨b, 1, none⟩ x1).setCell ⟨b, 2, none⟩ x2).setCell ⟨b, 3, none⟩ x3).setCell ⟨b, 4, none⟩ x4).setCell ⟨b, 5, none⟩ x5) :=
  (((((h.keptI 0 (hn.at 0) x0).trans ((h.set 0 x0).keptI 1 (fun x => hn.at 1 x) x1)).trans (((h.set 0 x0).set 1 x1).keptI 2 (fun x => hn.at 2 x) x2)).trans ((((h.set 0 x0).set 1 x1).set 2 x2).keptI 3 (fun x => hn.at 3 x) x3)).trans (((((h.set 0 x0).set 1 x1).set 2 x2).set 3 x3).keptI 4 (fun x => hn.at 4 x) x4)).trans ((((((h.set 0 x0).set 1 x1).set 2 x2).set 3 x3).set 4 x4).keptI 5 (fun x => hn.at 5 x) x5)
end
theorem FQ.letters {w : World} {v : Value} {q : Rat} {L : Nat} (h : FQ w v q L) : ∃ (k : Bool) (o1 : Option Addr) (l1 c1 : Nat) (o2 : Option Addr) (l2 c2 : Nat), v = .agg #[.bool k, .slice o1 l1 c1, .slice o2 l2 c2] := by
  obtain ⟨o1, l1, c1, o2, l2, c2, e⟩ := h.shape
  exact ⟨_, o1, l1, c1, o2, l2, c2, e⟩
def ZQ (w : World) (v : Value) (p q : Rat) (L : Nat) : Prop := ∃ b1 u1 d1 b2 u2 d2, v = .agg #[b1, u1, d1, b2, u2, d2] ∧ FQ w (.agg #[b1, u1, d1]) p L ∧ FQ w (.agg #[b2, u2, d2]) q L
def ZQE (w : World) (p q : Rat) (L : Nat) (e : Ending) (w' : World) : Prop := ∃ v, e = .returned v ∧ ZQ w' v p q L ∧ w.grownBy w' none
theorem ZQ.keep0 {w w' : World} {v : Value} {p q : Rat} {L : Nat} (h : ZQ w v p q L) (hg : w.grownBy w' none) : ZQ w' v p q L := by
  obtain ⟨b1, u1, d1, b2, u2, d2, e, h1, h2⟩ := h
  exact ⟨b1, u1, d1, b2, u2, d2, e, h1.keep0 hg, h2.keep0 hg⟩
theorem ZQ.kept {w w' : World} {v : Value} {p q : Rat} {L : Nat} (h : ZQ w v p q L) (hg : WKept w w') : ZQ w' v p q L := by
  obtain ⟨b1, u1, d1, b2, u2, d2, e, h1, h2⟩ := h
  exact ⟨b1, u1, d1, b2, u2, d2, e, h1.kept hg, h2.kept hg⟩
theorem ZQ.mono {w : World} {v : Value} {p q : Rat} {L L' : Nat} (h : ZQ w v p q L) (hl : L ≤ L') : ZQ w v p q L' := by
  obtain ⟨b1, u1, d1, b2, u2, d2, e, h1, h2⟩ := h
  exact ⟨b1, u1, d1, b2, u2, d2, e, h1.mono hl, h2.mono hl⟩
theorem ZQ.of {w : World} {b1 u1 d1 b2 u2 d2 : Value} {p q : Rat} {L : Nat} (h1 : FQ w (.agg #[b1, u1, d1]) p L) (h2 : FQ w (.agg #[b2, u2, d2]) q L) : ZQ w (.agg #[b1, u1, d1, b2, u2, d2]) p q L := ⟨_, _, _, _, _, _, rfl, h1, h2⟩
theorem ZQ.parts {w : World} {b1 u1 d1 b2 u2 d2 : Value} {p q : Rat} {L : Nat} (h : ZQ w (.agg #[b1, u1, d1, b2, u2, d2]) p q L) : FQ w (.agg #[b1, u1, d1]) p L ∧ FQ w (.agg #[b2, u2, d2]) q L := by
  obtain ⟨_, _, _, _, _, _, e, h1, h2⟩ := h
  simp only [Value.agg.injEq, Array.mk.injEq, List.cons.injEq, and_true] at e
  obtain ⟨rfl, rfl, rfl, rfl, rfl, rfl⟩ := e
  exact ⟨h1, h2⟩
theorem FQ.flat {w : World} {b u d : Value} {q : Rat} {L : Nat} (h : FQ w (.agg #[b, u, d]) q L) : ∃ (k : Bool) (o1 : Option Addr) (l1 c1 : Nat) (o2 : Option Addr) (l2 c2 : Nat), b = .bool k ∧ u = .slice o1 l1 c1 ∧ d = .slice o2 l2 c2 := by
  obtain ⟨k, o1, l1, c1, o2, l2, c2, e⟩ := h.letters
  simp only [Value.agg.injEq, Array.mk.injEq, List.cons.injEq, and_true] at e
  exact ⟨k, o1, l1, c1, o2, l2, c2, e⟩
theorem ZQ.letters {w : World} {v : Value} {p q : Rat} {L : Nat} (h : ZQ w v p q L) : ∃ (k1 : Bool) (o1 : Option Addr) (l1 c1 : Nat) (o2 : Option Addr) (l2 c2 : Nat) (k2 : Bool) (o3 : Option Addr) (l3 c3 : Nat) (o4 : Option Addr) (l4 c4 : Nat), v = .agg #[.bool k1, .slice o1 l1 c1, .slice o2 l2 c2, .bool k2, .slice o3 l3 c3, .slice o4 l4 c4] ∧ FQ w (.agg #[.bool k1, .slice o1 l1 c1, .slice o2 l2 c2]) p L ∧ FQ w (.agg #[.bool k2, .slice o3 l3 c3, .slice o4 l4 c4]) q L := by
  obtain ⟨b1, u1, d1, b2, u2, d2, e, h1, h2⟩ := h
  obtain ⟨k1, o1, l1, c1, o2, l2, c2, rfl, rfl, rfl⟩ := h1.flat
  obtain ⟨k2, o3, l3, c3, o4, l4, c4, rfl, rfl, rfl⟩ := h2.flat
  exact ⟨k1, o1, l1, c1, o2, l2, c2, k2, o3, l3, c3, o4, l4, c4, e, h1, h2⟩
theorem ZQ.real {w : World} {b u d : Value} {p : Rat} {L : Nat} (h : FQ w (.agg #[b, u, d]) p L) : ZQ w (.agg #[b, u, d, .bool false, .slice none 0 0, .slice none 0 0]) p 0 L := ZQ.of h (fq_zero' _ _)
end Go.Proofs.YtnpfjnkmpbmgeaaGreatDoor

namespace Go.Proofs.YtnpfjnkmpbmgeaaGreatDoor
open Go.RowKit
set_option linter.unusedVariables false
set_option linter.unusedSimpArgs false
set_option maxHeartbeats 8000000 in
set_option maxRecDepth 10000 in
theorem zPlus_at (x y : Value) (p q r s : Rat) (L M : Nat) (w : World) (hx : ZQ w x p q L) (hy : ZQ w y r s M) (hl : L + M ≤ 4000000000000) :
    Calls Tryz.prog 54 #[x, y] w fun e w' => ZQE w (p + r) (q + s) (L + M + 2) e w' := by
  obtain ⟨xk1, xo1, xl1, xc1, xo2, xl2, xc2, xk2, xo3, xl3, xc3, xo4, xl4, xc4, rfl, hx1, hx2⟩ := hx.letters
  obtain ⟨yk1, yo1, yl1, yc1, yo2, yl2, yc2, yk2, yo3, yl3, yc3, yo4, yl4, yc4, rfl, hy1, hy2⟩ := hy.letters
  have HX1 := hide hx1
  have HX2 := hide hx2
  have HY1 := hide hy1
  have HY2 := hide hy2
  clear hx hy hx1 hx2 hy1 hy2
  obtain ⟨W, hW⟩ : ∃ W, W = (((w.alloc (Obj.cells #[.bool xk1, .slice xo1 xl1 xc1, .slice xo2 xl2 xc2, .bool xk2, .slice xo3 xl3 xc3, .slice xo4 xl4 xc4] 55)).alloc (Obj.cells #[.bool yk1, .slice yo1 yl1 yc1, .slice yo2 yl2 yc2, .bool yk2, .slice yo3 yl3 yc3, .slice yo4 yl4 yc4] 55)).alloc (Obj.cells #[.bool false, .slice none 0 0, .slice none 0 0, .bool false, .slice none 0 0, .slice none 0 0] 55)) := ⟨_, rfl⟩
  have GW : Hid (w.grownBy W none) := by rw [hW]; exact gr_alloc (gr_alloc (gr_alloc (gr_refl _ _) _) _) _
  have BX : Hid (∀ wx, W.grownBy wx none → BoxC wx (w.heap.size) #[.bool xk1, .slice xo1 xl1 xc1, .slice xo2 xl2 xc2, .bool xk2, .slice xo3 xl3 xc3, .slice xo4 xl4 xc4]) := by
    intro wx hg
    rw [hW] at hg
    have h0 := (boxNew' w #[.bool xk1, .slice xo1 xl1 xc1, .slice xo2 xl2 xc2, .bool xk2, .slice xo3 xl3 xc3, .slice xo4 xl4 xc4] 55 (w.heap.size) (by simp))
    exact (((h0).keep0 (gr_alloc (gr_refl _ _) _)).keep0 (gr_alloc (gr_refl _ _) _)).keep0 hg
  have BY : Hid (∀ wx, W.grownBy wx none → BoxC wx (w.heap.size + 1) #[.bool yk1, .slice yo1 yl1 yc1, .slice yo2 yl2 yc2, .bool yk2, .slice yo3 yl3 yc3, .slice yo4 yl4 yc4]) := by
    intro wx hg
    rw [hW] at hg
    have h0 := (boxNew' (w.alloc (Obj.cells #[.bool xk1, .slice xo1 xl1 xc1, .slice xo2 xl2 xc2, .bool xk2, .slice xo3 xl3 xc3, .slice xo4 xl4 xc4] 55)) #[.bool yk1, .slice yo1 yl1 yc1, .slice yo2 yl2 yc2, .bool yk2, .slice yo3 yl3 yc3, .slice yo4 yl4 yc4] 55 (w.heap.size + 1) (by simp))
    exact ((h0).keep0 (gr_alloc (gr_refl _ _) _)).keep0 hg
  have BR : Hid (∀ wx, W.grownBy wx none → BoxC wx (w.heap.size + 1 + 1) #[.bool false, .slice none 0 0, .slice none 0 0, .bool false, .slice none 0 0, .slice none 0 0]) := by
    intro wx hg
    rw [hW] at hg
    have h0 := (boxNew' ((w.alloc (Obj.cells #[.bool xk1, .slice xo1 xl1 xc1, .slice xo2 xl2 xc2, .bool xk2, .slice xo3 xl3 xc3, .slice xo4 xl4 xc4] 55)).alloc (Obj.cells #[.bool yk1, .slice yo1 yl1 yc1, .slice yo2 yl2 yc2, .bool yk2, .slice yo3 yl3 yc3, .slice yo4 yl4 yc4] 55)) #[.bool false, .slice none 0 0, .slice none 0 0, .bool false, .slice none 0 0, .slice none 0 0] 55 (w.heap.size + 1 + 1) (by simp))
    exact (h0).keep0 hg
  have hne2_0 : ¬ w.heap.size + 1 + 1 = w.heap.size := by omega
  have hnf2_0 : ¬ w.heap.size = w.heap.size + 1 + 1 := by omega
  have hne2_1 : ¬ w.heap.size + 1 + 1 = w.heap.size + 1 := by omega
  have hnf2_1 : ¬ w.heap.size + 1 = w.heap.size + 1 + 1 := by omega
  obtain ⟨x0, x1, x2, x3, x4, x5, xf0, xf1, xf2, xf3, xf4, xf5⟩ := (BX.out W (gr_refl _ _)).c6
  obtain ⟨y0, y1, y2, y3, y4, y5, yf0, yf1, yf2, yf3, yf4, yf5⟩ := (BY.out W (gr_refl _ _)).c6
  go_enter Tryz.func54, Tryz.ntmps54
  go_wp2
  rw [← hW]
  clear hW
  have GG : W.grownBy W none := gr_refl _ _
  go_region_held3 (fun w' => w'.cell? ⟨w.heap.size, 0, none⟩ = some (.bool xk1) ∧ w'.cell? ⟨w.heap.size, 1, none⟩ = some (.slice xo1 xl1 xc1) ∧ w'.cell? ⟨w.heap.size, 2, none⟩ = some (.slice xo2 xl2 xc2) ∧ w'.cell? ⟨w.heap.size, 3, none⟩ = some (.bool xk2) ∧ w'.cell? ⟨w.heap.size, 4, none⟩ = some (.slice xo3 xl3 xc3) ∧ w'.cell? ⟨w.heap.size, 5, none⟩ = some (.slice xo4 xl4 xc4) ∧ w'.cell? ⟨w.heap.size + 1, 0, none⟩ = some (.bool yk1) ∧ w'.cell? ⟨w.heap.size + 1, 1, none⟩ = some (.slice yo1 yl1 yc1) ∧ w'.cell? ⟨w.heap.size + 1, 2, none⟩ = some (.slice yo2 yl2 yc2) ∧ w'.cell? ⟨w.heap.size + 1, 3, none⟩ = some (.bool yk2) ∧ w'.cell? ⟨w.heap.size + 1, 4, none⟩ = some (.slice yo3 yl3 yc3) ∧ w'.cell? ⟨w.heap.size + 1, 5, none⟩ = some (.slice yo4 yl4 yc4)) (go_keep)
    (first | (go_at_call_of 48 (Value.agg #[.bool xk1, .slice xo1 xl1 xc1, .slice xo2 xl2 xc2]); refine (qPlus_at _ _ p r L M _ (HX1.out.keep0 (gr_none GW.out (by first | exact gr_none GG (gr_d _) | exact gr_none GG gr_d1 | exact GG))) (HY1.out.keep0 (gr_none GW.out (by first | exact gr_none GG (gr_d _) | exact gr_none GG gr_d1 | exact GG))) (by omega)).mono ?_; rintro e wa ⟨va, rfl, pa, ga⟩; obtain ⟨ak, ao1, al1, ac1, ao2, al2, ac2, rfl⟩ := pa.letters; have KP := gr_none (by first | exact gr_d _ | exact gr_d1 | exact gr_refl _ _) ga; have GG : W.grownBy wa none := gr_none (by first | exact gr_none GG (gr_d _) | exact gr_none GG gr_d1 | exact GG) ga; clear KP; obtain ⟨ax0, ax1, ax2, ax3, ax4, ax5, axf0, axf1, axf2, axf3, axf4, axf5⟩ := (BX.out wa GG).c6; obtain ⟨ay0, ay1, ay2, ay3, ay4, ay5, ayf0, ayf1, ayf2, ayf3, ayf4, ayf5⟩ := (BY.out wa GG).c6; obtain ⟨ar0, ar1, ar2, ar3, ar4, ar5, arf0, arf1, arf2, arf3, arf4, arf5⟩ := (BR.out wa GG).c6) | (go_at_call_of 48 (Value.agg #[.bool xk2, .slice xo3 xl3 xc3, .slice xo4 xl4 xc4]); refine (qPlus_at _ _ q s L M _ (HX2.out.keep0 (gr_none GW.out (by first | exact gr_none GG (gr_d _) | exact gr_none GG gr_d1 | exact GG))) (HY2.out.keep0 (gr_none GW.out (by first | exact gr_none GG (gr_d _) | exact gr_none GG gr_d1 | exact GG))) (by omega)).mono ?_; rintro e wb ⟨vb, rfl, pb, gb⟩; obtain ⟨bk, bo1, bl1, bc1, bo2, bl2, bc2, rfl⟩ := pb.letters; have KP := gr_none (by first | exact gr_d _ | exact gr_d1 | exact gr_refl _ _) gb; have GG : W.grownBy wb none := gr_none (by first | exact gr_none GG (gr_d _) | exact gr_none GG gr_d1 | exact GG) gb; (try have pa := pa.keep0 KP); clear KP; obtain ⟨bx0, bx1, bx2, bx3, bx4, bx5, bxf0, bxf1, bxf2, bxf3, bxf4, bxf5⟩ := (BX.out wb GG).c6; obtain ⟨by0, by1, by2, by3, by4, by5, byf0, byf1, byf2, byf3, byf4, byf5⟩ := (BY.out wb GG).c6; obtain ⟨br0, br1, br2, br3, br4, br5, brf0, brf1, brf2, brf3, brf4, brf5⟩ := (BR.out wb GG).c6))
  all_goals
    have F1 := hide pa
    have F2 := hide pb
    have HGd := hide GG
    clear pa pb
    go_wp2
    refine bodyPost_ret (v := .agg #[.bool ak, .slice ao1 al1 ac1, .slice ao2 al2 ac2, .bool bk, .slice bo1 bl1 bc1, .slice bo2 bl2 bc2]) (by first | (simp [results, Tryz.results54, go_sem, br0, br1, br2, br3, br4, br5]; done) | (simp [results, Tryz.results54, go_sem, br0, br1, br2, br3, br4, br5]; rfl)) rfl ?_
    refine ⟨_, rfl, ZQ.kept (ZQ.of F1.out F2.out) ((BR.out _ HGd.out).kept6 _ _ _ _ _ _ (noWd6 _ _ _ _ _ _ _ _ _ _ _ _ _ _)), ?_⟩
    exact gr_set (gr_set (gr_set (gr_set (gr_set (gr_set (gr_none GW.out HGd.out) _ _ (by first | (simp; done) | (simp; omega))) _ _ (by first | (simp; done) | (simp; omega))) _ _ (by first | (simp; done) | (simp; omega))) _ _ (by first | (simp; done) | (simp; omega))) _ _ (by first | (simp; done) | (simp; omega))) _ _ (by first | (simp; done) | (simp; omega))
set_option maxHeartbeats 8000000 in
set_option maxRecDepth 10000 in
theorem zMinus_at (x y : Value) (p q r s : Rat) (L M : Nat) (w : World) (hx : ZQ w x p q L) (hy : ZQ w y r s M) (hl : L + M ≤ 4000000000000) :
    Calls Tryz.prog 53 #[x, y] w fun e w' => ZQE w (p - r) (q - s) (L + M + 2) e w' := by
  obtain ⟨xk1, xo1, xl1, xc1, xo2, xl2, xc2, xk2, xo3, xl3, xc3, xo4, xl4, xc4, rfl, hx1, hx2⟩ := hx.letters
  obtain ⟨yk1, yo1, yl1, yc1, yo2, yl2, yc2, yk2, yo3, yl3, yc3, yo4, yl4, yc4, rfl, hy1, hy2⟩ := hy.letters
  have HX1 := hide hx1
  have HX2 := hide hx2
  have HY1 := hide hy1
  have HY2 := hide hy2
  clear hx hy hx1 hx2 hy1 hy2
  obtain ⟨W, hW⟩ : ∃ W, W = (((w.alloc (Obj.cells #[.bool xk1, .slice xo1 xl1 xc1, .slice xo2 xl2 xc2, .bool xk2, .slice xo3 xl3 xc3, .slice xo4 xl4 xc4] 55)).alloc (Obj.cells #[.bool yk1, .slice yo1 yl1 yc1, .slice yo2 yl2 yc2, .bool yk2, .slice yo3 yl3 yc3, .slice yo4 yl4 yc4] 55)).alloc (Obj.cells #[.bool false, .slice none 0 0, .slice none 0 0, .bool false, .slice none 0 0, .slice none 0 0] 55)) := ⟨_, rfl⟩
  have GW : Hid (w.grownBy W none) := by rw [hW]; exact gr_alloc (gr_alloc (gr_alloc (gr_refl _ _) _) _) _
  have BX : Hid (∀ wx, W.grownBy wx none → BoxC wx (w.heap.size) #[.bool xk1, .slice xo1 xl1 xc1, .slice xo2 xl2 xc2, .bool xk2, .slice xo3 xl3 xc3, .slice xo4 xl4 xc4]) := by
    intro wx hg
    rw [hW] at hg
    have h0 := (boxNew' w #[.bool xk1, .slice xo1 xl1 xc1, .slice xo2 xl2 xc2, .bool xk2, .slice xo3 xl3 xc3, .slice xo4 xl4 xc4] 55 (w.heap.size) (by simp))
    exact (((h0).keep0 (gr_alloc (gr_refl _ _) _)).keep0 (gr_alloc (gr_refl _ _) _)).keep0 hg
  have BY : Hid (∀ wx, W.grownBy wx none → BoxC wx (w.heap.size + 1) #[.bool yk1, .slice yo1 yl1 yc1, .slice yo2 yl2 yc2, .bool yk2, .slice yo3 yl3 yc3, .slice yo4 yl4 yc4]) := by
    intro wx hg
    rw [hW] at hg
    have h0 := (boxNew' (w.alloc (Obj.cells #[.bool xk1, .slice xo1 xl1 xc1, .slice xo2 xl2 xc2, .bool xk2, .slice xo3 xl3 xc3, .slice xo4 xl4 xc4] 55)) #[.bool yk1, .slice yo1 yl1 yc1, .slice yo2 yl2 yc2, .bool yk2, .slice yo3 yl3 yc3, .slice yo4 yl4 yc4] 55 (w.heap.size + 1) (by simp))
    exact ((h0).keep0 (gr_alloc (gr_refl _ _) _)).keep0 hg
  have BR : Hid (∀ wx, W.grownBy wx none → BoxC wx (w.heap.size + 1 + 1) #[.bool false, .slice none 0 0, .slice none 0 0, .bool false, .slice none 0 0, .slice none 0 0]) := by
    intro wx hg
    rw [hW] at hg
    have h0 := (boxNew' ((w.alloc (Obj.cells #[.bool xk1, .slice xo1 xl1 xc1, .slice xo2 xl2 xc2, .bool xk2, .slice xo3 xl3 xc3, .slice xo4 xl4 xc4] 55)).alloc (Obj.cells #[.bool yk1, .slice yo1 yl1 yc1, .slice yo2 yl2 yc2, .bool yk2, .slice yo3 yl3 yc3, .slice yo4 yl4 yc4] 55)) #[.bool false, .slice none 0 0, .slice none 0 0, .bool false, .slice none 0 0, .slice none 0 0] 55 (w.heap.size + 1 + 1) (by simp))
    exact (h0).keep0 hg
  have hne2_0 : ¬ w.heap.size + 1 + 1 = w.heap.size := by omega
  have hnf2_0 : ¬ w.heap.size = w.heap.size + 1 + 1 := by omega
  have hne2_1 : ¬ w.heap.size + 1 + 1 = w.heap.size + 1 := by omega
  have hnf2_1 : ¬ w.heap.size + 1 = w.heap.size + 1 + 1 := by omega
  obtain ⟨x0, x1, x2, x3, x4, x5, xf0, xf1, xf2, xf3, xf4, xf5⟩ := (BX.out W (gr_refl _ _)).c6
  obtain ⟨y0, y1, y2, y3, y4, y5, yf0, yf1, yf2, yf3, yf4, yf5⟩ := (BY.out W (gr_refl _ _)).c6
  go_enter Tryz.func53, Tryz.ntmps53
  go_wp2
  rw [← hW]
  clear hW
  have GG : W.grownBy W none := gr_refl _ _
  go_region_held3 (fun w' => w'.cell? ⟨w.heap.size, 0, none⟩ = some (.bool xk1) ∧ w'.cell? ⟨w.heap.size, 1, none⟩ = some (.slice xo1 xl1 xc1) ∧ w'.cell? ⟨w.heap.size, 2, none⟩ = some (.slice xo2 xl2 xc2) ∧ w'.cell? ⟨w.heap.size, 3, none⟩ = some (.bool xk2) ∧ w'.cell? ⟨w.heap.size, 4, none⟩ = some (.slice xo3 xl3 xc3) ∧ w'.cell? ⟨w.heap.size, 5, none⟩ = some (.slice xo4 xl4 xc4) ∧ w'.cell? ⟨w.heap.size + 1, 0, none⟩ = some (.bool yk1) ∧ w'.cell? ⟨w.heap.size + 1, 1, none⟩ = some (.slice yo1 yl1 yc1) ∧ w'.cell? ⟨w.heap.size + 1, 2, none⟩ = some (.slice yo2 yl2 yc2) ∧ w'.cell? ⟨w.heap.size + 1, 3, none⟩ = some (.bool yk2) ∧ w'.cell? ⟨w.heap.size + 1, 4, none⟩ = some (.slice yo3 yl3 yc3) ∧ w'.cell? ⟨w.heap.size + 1, 5, none⟩ = some (.slice yo4 yl4 yc4)) (go_keep)
    (first | (go_at_call_of 82 (Value.agg #[.bool xk1, .slice xo1 xl1 xc1, .slice xo2 xl2 xc2]); refine (qMinus_at _ _ p r L M _ (HX1.out.keep0 (gr_none GW.out (by first | exact gr_none GG (gr_d _) | exact gr_none GG gr_d1 | exact GG))) (HY1.out.keep0 (gr_none GW.out (by first | exact gr_none GG (gr_d _) | exact gr_none GG gr_d1 | exact GG))) (by omega)).mono ?_; rintro e wa ⟨va, rfl, pa, ga⟩; obtain ⟨ak, ao1, al1, ac1, ao2, al2, ac2, rfl⟩ := pa.letters; have KP := gr_none (by first | exact gr_d _ | exact gr_d1 | exact gr_refl _ _) ga; have GG : W.grownBy wa none := gr_none (by first | exact gr_none GG (gr_d _) | exact gr_none GG gr_d1 | exact GG) ga; clear KP; obtain ⟨ax0, ax1, ax2, ax3, ax4, ax5, axf0, axf1, axf2, axf3, axf4, axf5⟩ := (BX.out wa GG).c6; obtain ⟨ay0, ay1, ay2, ay3, ay4, ay5, ayf0, ayf1, ayf2, ayf3, ayf4, ayf5⟩ := (BY.out wa GG).c6; obtain ⟨ar0, ar1, ar2, ar3, ar4, ar5, arf0, arf1, arf2, arf3, arf4, arf5⟩ := (BR.out wa GG).c6) | (go_at_call_of 82 (Value.agg #[.bool xk2, .slice xo3 xl3 xc3, .slice xo4 xl4 xc4]); refine (qMinus_at _ _ q s L M _ (HX2.out.keep0 (gr_none GW.out (by first | exact gr_none GG (gr_d _) | exact gr_none GG gr_d1 | exact GG))) (HY2.out.keep0 (gr_none GW.out (by first | exact gr_none GG (gr_d _) | exact gr_none GG gr_d1 | exact GG))) (by omega)).mono ?_; rintro e wb ⟨vb, rfl, pb, gb⟩; obtain ⟨bk, bo1, bl1, bc1, bo2, bl2, bc2, rfl⟩ := pb.letters; have KP := gr_none (by first | exact gr_d _ | exact gr_d1 | exact gr_refl _ _) gb; have GG : W.grownBy wb none := gr_none (by first | exact gr_none GG (gr_d _) | exact gr_none GG gr_d1 | exact GG) gb; (try have pa := pa.keep0 KP); clear KP; obtain ⟨bx0, bx1, bx2, bx3, bx4, bx5, bxf0, bxf1, bxf2, bxf3, bxf4, bxf5⟩ := (BX.out wb GG).c6; obtain ⟨by0, by1, by2, by3, by4, by5, byf0, byf1, byf2, byf3, byf4, byf5⟩ := (BY.out wb GG).c6; obtain ⟨br0, br1, br2, br3, br4, br5, brf0, brf1, brf2, brf3, brf4, brf5⟩ := (BR.out wb GG).c6))
  all_goals
    have F1 := hide pa
    have F2 := hide pb
    have HGd := hide GG
    clear pa pb
    go_wp2
    refine bodyPost_ret (v := .agg #[.bool ak, .slice ao1 al1 ac1, .slice ao2 al2 ac2, .bool bk, .slice bo1 bl1 bc1, .slice bo2 bl2 bc2]) (by first | (simp [results, Tryz.results53, go_sem, br0, br1, br2, br3, br4, br5]; done) | (simp [results, Tryz.results53, go_sem, br0, br1, br2, br3, br4, br5]; rfl)) rfl ?_
    refine ⟨_, rfl, ZQ.kept (ZQ.of F1.out F2.out) ((BR.out _ HGd.out).kept6 _ _ _ _ _ _ (noWd6 _ _ _ _ _ _ _ _ _ _ _ _ _ _)), ?_⟩
    exact gr_set (gr_set (gr_set (gr_set (gr_set (gr_set (gr_none GW.out HGd.out) _ _ (by first | (simp; done) | (simp; omega))) _ _ (by first | (simp; done) | (simp; omega))) _ _ (by first | (simp; done) | (simp; omega))) _ _ (by first | (simp; done) | (simp; omega))) _ _ (by first | (simp; done) | (simp; omega))) _ _ (by first | (simp; done) | (simp; omega))
end Go.Proofs.YtnpfjnkmpbmgeaaGreatDoor
