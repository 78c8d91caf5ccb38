/- For every net whose bulk is at most 1048576, voltaiclaw.NetChecks returns true and leaves its argument as it was: net.Check, Linear, Islands, Tree, Loops and Cuts answer as the document's own reckoning does, and leave the list that was lent, and the room behind it, as they were. The condition: the statement's second form (its bound on the argument's bulk); net.kinds and voltaicsame.Mark start as the program's text lays them. -/
import Derived.Test.YtfhamfgcjdhmdaaGreatDoorCards
import Derived.Test.YtfhamfgcjdhmdaaGreatDoorTie
import Derived.Test.YtfhamfgcjdhmdaaGreatDoorNChk2
import Derived.ProofKit
import Derived.OpenShut
import Derived.ShutString
import Derived.ChangeOld
import Derived.Below
import Derived.Deep.DeepHandedRow
import Derived.Lib.LaidTab
import Derived.Lib.SmallJoins
import Derived.Deep.Slices
namespace Go.Proofs.YtfhamfgcjdhmdaaGreatDoor
open Go.ChangeShapes Go.WideShapes Go.ChangeAt Go.RowKit Go.Joins Go.Deep
set_option linter.unusedVariables false

theorem ownK : ownKnob Tryz.prog.godebug = none := by kernel_rfl
theorem laidOutK : laidOutB Tryz.prog = true := by kernel_rfl
theorem gTab : Tryz.prog.globalNamed "voltaic/net.kinds" = some 4 := by kernel_rfl
theorem gTabType : (Tryz.prog.globals[4]?).map (·.type) = some 178 := by kernel_rfl
theorem gMark : Tryz.prog.globalNamed "voltaic/voltaicsame.Mark" = some 2 := by kernel_rfl
theorem gMarkType : (Tryz.prog.globals[2]?).map (·.type) = some 62 := by kernel_rfl
theorem cellsTab : Tryz.prog.cellsOf 178 = 45 := by kernel_rfl
theorem cellsKind : Tryz.prog.cellsOf 177 = 5 := by kernel_rfl
theorem cellsPart : Tryz.prog.cellsOf 62 = 6 := by kernel_rfl
theorem cellsNet : Tryz.prog.cellsOf 38 = 2 := by kernel_rfl
theorem cellsStr : Tryz.prog.cellsOf 9 = 1 := by kernel_rfl
theorem cellsQ : Tryz.prog.cellsOf 23 = 1 := by kernel_rfl
theorem cellsBool : Tryz.prog.cellsOf 4 = 1 := by kernel_rfl
theorem cellsInt : Tryz.prog.cellsOf 3 = 1 := by kernel_rfl

section
variable {H : Type} {enc : TypeId × Value → H} {w : World} {base : Nat} {spare : Nat → Bool} {held : Bool}

/-- One place of a list. -/
theorem one_at {cs : List Value} {i : Nat} {v : Value} (h : (cs.drop i).take 1 = [v]) : cs[i]? = some v := by
  have := congrArg (·[0]?) h
  simpa [List.getElem?_take, List.getElem?_drop] using this

/-- A part, as it is read. -/
theorem part_cells {fuel : Nat} {cs : List Value} {x : DataW H × List MemPlace} (h : DataW.trod enc Tryz.prog w base spare held fuel 62 cs = some x) :
    ∃ p : Prt, cs[0]? = some (.int .i64 p.kind) ∧ cs[1]? = some (.int .i64 p.a) ∧ cs[2]? = some (.int .i64 p.b) ∧ cs[3]? = some (.int .i64 p.c) ∧ cs[4]? = some (.int .i64 p.d) ∧ cs[5]? = some (.string p.v) ∧ ∃ r : List (DataW H), x.1 = .agg r ∧ .lit (.string p.v.data.toList) ∈ r := by
  obtain ⟨xs, n, _, hx, hl, hlen, hf⟩ := DataW.trod_struct Tryz.underlying62 h
  have hlen' : xs.length = 6 := hlen
  have f0 := hf 0 _ rfl
  change DataW.trod enc Tryz.prog w base spare held n 3 ((cs.drop 0).take (Tryz.prog.cellsOf 3)) = _ at f0
  rw [cellsInt, List.getElem?_eq_getElem (by omega)] at f0
  have f1 := hf 1 _ rfl
  change DataW.trod enc Tryz.prog w base spare held n 3 ((cs.drop 1).take (Tryz.prog.cellsOf 3)) = _ at f1
  rw [cellsInt, List.getElem?_eq_getElem (by omega)] at f1
  have f2 := hf 2 _ rfl
  change DataW.trod enc Tryz.prog w base spare held n 3 ((cs.drop 2).take (Tryz.prog.cellsOf 3)) = _ at f2
  rw [cellsInt, List.getElem?_eq_getElem (by omega)] at f2
  have f3 := hf 3 _ rfl
  change DataW.trod enc Tryz.prog w base spare held n 3 ((cs.drop 3).take (Tryz.prog.cellsOf 3)) = _ at f3
  rw [cellsInt, List.getElem?_eq_getElem (by omega)] at f3
  have f4 := hf 4 _ rfl
  change DataW.trod enc Tryz.prog w base spare held n 3 ((cs.drop 4).take (Tryz.prog.cellsOf 3)) = _ at f4
  rw [cellsInt, List.getElem?_eq_getElem (by omega)] at f4
  have f5 := hf 5 _ rfl
  change DataW.trod enc Tryz.prog w base spare held n 23 ((cs.drop 5).take (Tryz.prog.cellsOf 23)) = _ at f5
  rw [cellsQ, List.getElem?_eq_getElem (by omega)] at f5
  obtain ⟨z0, e0, _, _⟩ := DataW.trod_int Tryz.underlying3 f0
  obtain ⟨z1, e1, _, _⟩ := DataW.trod_int Tryz.underlying3 f1
  obtain ⟨z2, e2, _, _⟩ := DataW.trod_int Tryz.underlying3 f2
  obtain ⟨z3, e3, _, _⟩ := DataW.trod_int Tryz.underlying3 f3
  obtain ⟨z4, e4, _, _⟩ := DataW.trod_int Tryz.underlying3 f4
  obtain ⟨s, e5, e6, _⟩ := DataW.trod_string Tryz.underlying23 f5
  refine ⟨⟨z0, z1, z2, z3, z4, s⟩, one_at e0, one_at e1, one_at e2, one_at e3, one_at e4, one_at e5, xs.map (·.1), by rw [hx], ?_⟩
  have : xs[5].1 ∈ xs.map (·.1) := List.mem_map.2 ⟨xs[5], List.getElem_mem _, rfl⟩
  rw [e6] at this
  exact this

/-- A kind, as it is read. -/
theorem kind_cells {fuel : Nat} {cs : List Value} {x : DataW H × List MemPlace} {d0 d1 : DataW H} {v a l : Bool} (h : DataW.trod enc Tryz.prog w base spare held fuel 177 cs = some x) (hd : x.1 = .agg [d0, d1, .lit (.bool v), .lit (.bool a), .lit (.bool l)]) :
    ∃ s u : ByteArray, cs[0]? = some (.string s) ∧ cs[1]? = some (.string u) ∧ cs[2]? = some (.bool v) ∧ cs[3]? = some (.bool a) ∧ cs[4]? = some (.bool l) := by
  obtain ⟨xs, n, _, hx, hl, hlen, hf⟩ := DataW.trod_struct Tryz.underlying177 h
  have hlen' : xs.length = 5 := hlen
  have f0 := hf 0 _ rfl
  change DataW.trod enc Tryz.prog w base spare held n 9 ((cs.drop 0).take (Tryz.prog.cellsOf 9)) = _ at f0
  rw [cellsStr, List.getElem?_eq_getElem (by omega)] at f0
  have f1 := hf 1 _ rfl
  change DataW.trod enc Tryz.prog w base spare held n 9 ((cs.drop 1).take (Tryz.prog.cellsOf 9)) = _ at f1
  rw [cellsStr, List.getElem?_eq_getElem (by omega)] at f1
  have f2 := hf 2 _ rfl
  change DataW.trod enc Tryz.prog w base spare held n 4 ((cs.drop 2).take (Tryz.prog.cellsOf 4)) = _ at f2
  rw [cellsBool, List.getElem?_eq_getElem (by omega)] at f2
  have f3 := hf 3 _ rfl
  change DataW.trod enc Tryz.prog w base spare held n 4 ((cs.drop 3).take (Tryz.prog.cellsOf 4)) = _ at f3
  rw [cellsBool, List.getElem?_eq_getElem (by omega)] at f3
  have f4 := hf 4 _ rfl
  change DataW.trod enc Tryz.prog w base spare held n 4 ((cs.drop 4).take (Tryz.prog.cellsOf 4)) = _ at f4
  rw [cellsBool, List.getElem?_eq_getElem (by omega)] at f4
  obtain ⟨s, e0, _, _⟩ := DataW.trod_string Tryz.underlying9 f0
  obtain ⟨u, e1, _, _⟩ := DataW.trod_string Tryz.underlying9 f1
  obtain ⟨b2, e2, g2⟩ := DataW.trod_bool Tryz.underlying4 f2
  obtain ⟨b3, e3, g3⟩ := DataW.trod_bool Tryz.underlying4 f3
  obtain ⟨b4, e4, g4⟩ := DataW.trod_bool Tryz.underlying4 f4
  have hm : xs.map (·.1) = [d0, d1, .lit (.bool v), .lit (.bool a), .lit (.bool l)] := by
    rw [hx] at hd
    simpa using hd
  have m2 := congrArg (·[2]?) hm
  have m3 := congrArg (·[3]?) hm
  have m4 := congrArg (·[4]?) hm
  simp only [List.getElem?_map, List.getElem?_eq_getElem (show 2 < xs.length by omega), List.getElem?_eq_getElem (show 3 < xs.length by omega), List.getElem?_eq_getElem (show 4 < xs.length by omega), g2, g3, g4] at m2 m3 m4
  simp at m2 m3 m4
  subst m2 m3 m4
  exact ⟨s, u, one_at e0, one_at e1, one_at e2, one_at e3, one_at e4⟩
/-- The mark, as it is read. -/
theorem mark_cells {fuel : Nat} {cs : List Value} {x : DataW H × List MemPlace} {k a b c d : Int} {v : List UInt8} (h : DataW.trod enc Tryz.prog w base spare held fuel 62 cs = some x) (hd : x.1 = .agg [.lit (.int .i64 k), .lit (.int .i64 a), .lit (.int .i64 b), .lit (.int .i64 c), .lit (.int .i64 d), .lit (.string v)]) :
    cs[0]? = some (.int .i64 k) ∧ cs[1]? = some (.int .i64 a) ∧ cs[2]? = some (.int .i64 b) ∧ cs[3]? = some (.int .i64 c) ∧ cs[4]? = some (.int .i64 d) ∧ cs[5]? = some (.string ⟨v.toArray⟩) := by
  obtain ⟨xs, n, _, hx, hl, hlen, hf⟩ := DataW.trod_struct Tryz.underlying62 h
  have hlen' : xs.length = 6 := hlen
  have f0 := hf 0 _ rfl
  change DataW.trod enc Tryz.prog w base spare held n 3 ((cs.drop 0).take (Tryz.prog.cellsOf 3)) = _ at f0
  rw [cellsInt, List.getElem?_eq_getElem (by omega)] at f0
  obtain ⟨z0, e0, g0, _⟩ := DataW.trod_int Tryz.underlying3 f0
  have f1 := hf 1 _ rfl
  change DataW.trod enc Tryz.prog w base spare held n 3 ((cs.drop 1).take (Tryz.prog.cellsOf 3)) = _ at f1
  rw [cellsInt, List.getElem?_eq_getElem (by omega)] at f1
  obtain ⟨z1, e1, g1, _⟩ := DataW.trod_int Tryz.underlying3 f1
  have f2 := hf 2 _ rfl
  change DataW.trod enc Tryz.prog w base spare held n 3 ((cs.drop 2).take (Tryz.prog.cellsOf 3)) = _ at f2
  rw [cellsInt, List.getElem?_eq_getElem (by omega)] at f2
  obtain ⟨z2, e2, g2, _⟩ := DataW.trod_int Tryz.underlying3 f2
  have f3 := hf 3 _ rfl
  change DataW.trod enc Tryz.prog w base spare held n 3 ((cs.drop 3).take (Tryz.prog.cellsOf 3)) = _ at f3
  rw [cellsInt, List.getElem?_eq_getElem (by omega)] at f3
  obtain ⟨z3, e3, g3, _⟩ := DataW.trod_int Tryz.underlying3 f3
  have f4 := hf 4 _ rfl
  change DataW.trod enc Tryz.prog w base spare held n 3 ((cs.drop 4).take (Tryz.prog.cellsOf 3)) = _ at f4
  rw [cellsInt, List.getElem?_eq_getElem (by omega)] at f4
  obtain ⟨z4, e4, g4, _⟩ := DataW.trod_int Tryz.underlying3 f4
  have f5 := hf 5 _ rfl
  change DataW.trod enc Tryz.prog w base spare held n 23 ((cs.drop 5).take (Tryz.prog.cellsOf 23)) = _ at f5
  rw [cellsQ, List.getElem?_eq_getElem (by omega)] at f5
  obtain ⟨s, e5, g5, _⟩ := DataW.trod_string Tryz.underlying23 f5
  have hm : xs.map (·.1) = [.lit (.int .i64 k), .lit (.int .i64 a), .lit (.int .i64 b), .lit (.int .i64 c), .lit (.int .i64 d), .lit (.string v)] := by
    rw [hx] at hd
    simpa using hd
  have m0 := congrArg (·[0]?) hm
  simp only [List.getElem?_map, List.getElem?_eq_getElem (show 0 < xs.length by omega), g0] at m0
  have m1 := congrArg (·[1]?) hm
  simp only [List.getElem?_map, List.getElem?_eq_getElem (show 1 < xs.length by omega), g1] at m1
  have m2 := congrArg (·[2]?) hm
  simp only [List.getElem?_map, List.getElem?_eq_getElem (show 2 < xs.length by omega), g2] at m2
  have m3 := congrArg (·[3]?) hm
  simp only [List.getElem?_map, List.getElem?_eq_getElem (show 3 < xs.length by omega), g3] at m3
  have m4 := congrArg (·[4]?) hm
  simp only [List.getElem?_map, List.getElem?_eq_getElem (show 4 < xs.length by omega), g4] at m4
  have m5 := congrArg (·[5]?) hm
  simp only [List.getElem?_map, List.getElem?_eq_getElem (show 5 < xs.length by omega), g5] at m5
  simp at m0 m1 m2 m3 m4 m5
  subst m0 m1 m2 m3 m4
  have e6 : s = ⟨v.toArray⟩ := by rw [← m5]
  subst e6
  exact ⟨one_at e0, one_at e1, one_at e2, one_at e3, one_at e4, one_at e5⟩
end

/-- What the row's list gives: the table of the kinds. -/
theorem kinds_at {W : World} (h : laidMetH Tryz.prog Rows.netChecksUptoRow.laid W) : KindsAt W := by
  have h' : laidMet Tryz.prog [("unicode/utf8.acceptRanges", Rows.laid_unicode_utf8_acceptRanges), ("voltaic/net.kinds", Rows.laid_voltaic_net_kinds), ("voltaic/voltaicsame.Mark", Rows.laid_voltaic_voltaicsame_Mark), ("unicode/utf8.first", Rows.laid_unicode_utf8_first)] W := h
  obtain ⟨ps, ⟨_, _, _, _, _, _, _, _, _, _, ⟨g', t', cs, fuel, p, q, hg', ht', hvar, hd, _, _⟩, _⟩, _⟩ := h'
  obtain rfl := Option.some.inj (gTab.symm.trans hg')
  obtain rfl := Option.some.inj (gTabType.symm.trans ht')
  obtain ⟨xs, m, _, hx, hl, hlen, hf⟩ := DataW.trod_array Tryz.underlying178 hd
  have hm : xs.map (·.1) = (match (Rows.laid_voltaic_net_kinds : DataW Unit) with | .agg l => l | _ => []) := by
    have := congrArg Prod.fst hx
    simp only [Rows.laid_voltaic_net_kinds] at this ⊢
    simpa using this.symm
  have hcell : ∀ i, W.cell? ⟨4, i, none⟩ = cs[i]? := fun i => World.var?_cell gTab hvar i
  have hsz : cs.size = 45 := by rw [cellsTab] at hl; simpa using hl
  have hlt : 4 < W.heap.size := World.block_lt_of_cell? W ⟨4, 0, none⟩ (u := cs[0]) (by rw [hcell]; simp [hsz])
  refine ⟨hlt, fun k hk1 hk2 => ?_⟩
  have hk : k < 9 := by omega
  have hfk := hf k hk
  rw [cellsKind, List.getElem?_eq_getElem (by omega)] at hfk
  have hxk : ∃ d0 d1, (xs[k]'(by omega)).1 = .agg [d0, d1, .lit (.bool (kValued k)), .lit (.bool (kAbove k)), .lit (.bool (kLed k))] := by
    have mk := congrArg (·[k]?) hm
    simp only [List.getElem?_map, List.getElem?_eq_getElem (show k < xs.length by omega), Option.map_some] at mk
    have hK : k = 1 ∨ k = 2 ∨ k = 3 ∨ k = 4 ∨ k = 5 ∨ k = 6 ∨ k = 7 ∨ k = 8 := by omega
    rcases hK with rfl | rfl | rfl | rfl | rfl | rfl | rfl | rfl <;> exact ⟨_, _, Option.some.inj mk⟩
  obtain ⟨d0, d1, hxk⟩ := hxk
  obtain ⟨s, u, c0, c1, c2, c3, c4⟩ := kind_cells hfk hxk
  have get : ∀ j v, j < 5 → ((cs.toList.drop (k * 5)).take 5)[j]? = some v → W.cell? ⟨4, k * 5 + j, none⟩ = some v := by
    intro j v hj h
    rw [hcell]
    rw [List.getElem?_take, if_pos hj, List.getElem?_drop] at h
    simpa using h
  exact ⟨s, u, get 0 _ (by omega) c0, get 1 _ (by omega) c1, get 2 _ (by omega) c2, get 3 _ (by omega) c3, get 4 _ (by omega) c4⟩

/-- And the mark. -/
theorem mark_at {W : World} (h : laidMetH Tryz.prog Rows.netChecksUptoRow.laid W) : MarkAt W := by
  have h' : laidMet Tryz.prog [("unicode/utf8.acceptRanges", Rows.laid_unicode_utf8_acceptRanges), ("voltaic/net.kinds", Rows.laid_voltaic_net_kinds), ("voltaic/voltaicsame.Mark", Rows.laid_voltaic_voltaicsame_Mark), ("unicode/utf8.first", Rows.laid_unicode_utf8_first)] W := h
  obtain ⟨ps, ⟨_, _, _, _, _, _, _, _, _, _, ⟨_, _, _, _, _, _, _, _, _, _, ⟨g', t', cs, fuel, p, q, hg', ht', hvar, hd, _, _⟩, _⟩, _⟩, _⟩ := h'
  obtain rfl := Option.some.inj (gMark.symm.trans hg')
  obtain rfl := Option.some.inj (gMarkType.symm.trans ht')
  have hcell : ∀ i, W.cell? ⟨2, i, none⟩ = cs[i]? := fun i => World.var?_cell gMark hvar i
  obtain ⟨c0, c1, c2, c3, c4, c5⟩ := mark_cells hd rfl
  have get : ∀ i v, cs.toList[i]? = some v → W.cell? ⟨2, i, none⟩ = some v := by
    intro i v hv
    rw [hcell]
    simpa using hv
  exact ⟨get 0 _ c0, get 1 _ c1, get 2 _ c2, get 3 _ c3, get 4 _ c4, get 5 _ c5⟩
end Go.Proofs.YtfhamfgcjdhmdaaGreatDoor
