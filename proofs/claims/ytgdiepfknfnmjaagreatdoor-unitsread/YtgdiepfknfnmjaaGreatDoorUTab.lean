/- What the row's list gives voltaiclaw.UnitsRead: the library's tables, the project's prefixes, the reference's two maps. -/
import Derived.Test.YtgdiepfknfnmjaaGreatDoorCards
import Derived.Test.YtgdiepfknfnmjaaGreatDoorTie
import Derived.Test.YtgdiepfknfnmjaaGreatDoorMRb
import Derived.ProofKit
import Derived.OpenShut
import Derived.ShutString
import Derived.ChangeOld
import Derived.Below
import Derived.Deep.DeepHandedRow
import Derived.Lib.LaidU8
import Derived.Lib.SmallJoins
import Derived.LaidMore
namespace Go.Proofs.YtgdiepfknfnmjaaGreatDoor
open Go.ChangeShapes Go.WideShapes Go.ChangeAt Go.WideMaps Go.WideElems Go.RowKit Go.Joins Go.Deep
set_option linter.unusedVariables false
set_option linter.unusedSimpArgs false

theorem ownK : ownKnob Tryz.prog.godebug = none := by kernel_rfl
theorem laidOutK : laidOutB Tryz.prog = true := by kernel_rfl
theorem gPow : Tryz.prog.globalNamed "internal/strconv.uint64pow10" = some 6 := by kernel_rfl
theorem gPowType : (Tryz.prog.globals[6]?).map (·.type) = some 191 := by kernel_rfl
theorem gFirst : Tryz.prog.globalNamed "unicode/utf8.first" = some 3 := by kernel_rfl
theorem gFirstType : (Tryz.prog.globals[3]?).map (·.type) = some 161 := by kernel_rfl
theorem gAcc : Tryz.prog.globalNamed "unicode/utf8.acceptRanges" = some 4 := by kernel_rfl
theorem gAccType : (Tryz.prog.globals[4]?).map (·.type) = some 164 := by kernel_rfl
theorem gPref : Tryz.prog.globalNamed "voltaic/units.prefixes" = some 2 := by kernel_rfl
theorem gPrefType : (Tryz.prog.globals[2]?).map (·.type) = some 103 := by kernel_rfl
theorem gPwr : Tryz.prog.globalNamed "voltaic/voltaicref.powers" = some 0 := by kernel_rfl
theorem gPwrType : (Tryz.prog.globals[0]?).map (·.type) = some 65 := by kernel_rfl
theorem gUni : Tryz.prog.globalNamed "voltaic/voltaicref.units" = some 1 := by kernel_rfl
theorem gUniType : (Tryz.prog.globals[1]?).map (·.type) = some 67 := by kernel_rfl
theorem cellsU64 : Tryz.prog.cellsOf 101 = 1 := by kernel_rfl
theorem cellsPow : Tryz.prog.cellsOf 191 = 20 := by kernel_rfl
theorem cellsU8 : Tryz.prog.cellsOf 5 = 1 := by kernel_rfl
theorem cellsFirst : Tryz.prog.cellsOf 161 = 256 := by kernel_rfl
theorem cellsAcc : Tryz.prog.cellsOf 163 = 2 := by kernel_rfl
theorem cellsPref : Tryz.prog.cellsOf 70 = 2 := by kernel_rfl
theorem cellsRune : Tryz.prog.cellsOf 21 = 1 := by kernel_rfl
theorem cellsInt : Tryz.prog.cellsOf 3 = 1 := by kernel_rfl
theorem keyS : KeyLaw Tryz.prog 9 := string_law Tryz.underlying9

/-- Each listed variable reads as the list says. -/
theorem reads_of {W : World} (h : laidMetH Tryz.prog Rows.unitsReadRow.laid W) {n : String} {d : DataW Unit} (hm : (n, d) ∈ Rows.unitsReadRow.laid) : Lib.VarReads Tryz.prog W n d := by
  rw [MakeChecks.laidMetH_plain _ _ _ (by kernel_rfl)] at h
  exact Lib.laidMet.reads h hm

theorem tab10_of {W : World} (h : Lib.VarReads Tryz.prog W "internal/strconv.uint64pow10" Rows.laid_internal_strconv_uint64pow10) : Tab10 W := by
  obtain ⟨g, t, cs, fuel, p, hg, hty, hvar, hd⟩ := h
  obtain rfl := Option.some.inj (gPow.symm.trans hg)
  obtain rfl := Option.some.inj (gPowType.symm.trans hty)
  have e : (Rows.laid_internal_strconv_uint64pow10 : DataW Unit) = Lib.tabData .u64 Lib.pow10Tab := by kernel_rfl
  rw [e] at hd
  have hcs := Lib.cells_of_tab Tryz.underlying191 Tryz.underlying101 cellsU64 cellsPow hd
  unfold Tab10 Lib.TabIs
  rw [hvar, ← hcs]

theorem utf8_of {W : World} (h3 : Lib.VarReads Tryz.prog W "unicode/utf8.first" Rows.laid_unicode_utf8_first) (h4 : Lib.VarReads Tryz.prog W "unicode/utf8.acceptRanges" Rows.laid_unicode_utf8_acceptRanges) : UTabs W := by
  refine ⟨fun c hc => ?_, fun i hi => ?_⟩
  · obtain ⟨g, t, cs, fuel, p, hg, hty, hvar, hd⟩ := h3
    obtain rfl := Option.some.inj (gFirst.symm.trans hg)
    obtain rfl := Option.some.inj (gFirstType.symm.trans hty)
    have e : Rows.laid_unicode_utf8_first = Lib.tabData .u8 Lib.firstTab := by kernel_rfl
    rw [e] at hd
    have hcs := Lib.cells_of_tab Tryz.underlying161 Tryz.underlying5 cellsU8 cellsFirst hd
    rw [World.var?_cell hg hvar c, ← Array.getElem?_toList, hcs]
    simp [Lib.firstTab, hc]
  · obtain ⟨g, t, cs, fuel, p, hg, hty, hvar, hd⟩ := h4
    obtain rfl := Option.some.inj (gAcc.symm.trans hg)
    obtain rfl := Option.some.inj (gAccType.symm.trans hty)
    have e : (Rows.laid_unicode_utf8_acceptRanges : DataW Unit) = Lib.acceptData := by kernel_rfl
    rw [e] at hd
    obtain ⟨fuel', d, q, hdi, he⟩ := Lib.array_elem Tryz.underlying164 hd i hi
    simp only [List.getElem?_map, List.getElem?_range hi, Option.map_some, Option.some.injEq] at hdi
    subst hdi
    rw [cellsAcc] at he
    have hcs := Lib.ints_of_struct Tryz.underlying163 (fun j f hj => by
      match j, hj with
      | 0, hj => simp at hj; subst hj; exact ⟨Tryz.underlying5, rfl, cellsU8⟩
      | 1, hj => simp at hj; subst hj; exact ⟨Tryz.underlying5, rfl, cellsU8⟩
      | j + 2, hj => simp at hj) (by rw [cellsAcc]; rfl) he
    have e0 := congrArg (·[0]?) hcs
    have e1 := congrArg (·[1]?) hcs
    simp only [List.getElem?_take, List.getElem?_drop] at e0 e1
    constructor
    · rw [World.var?_cell hg hvar (2 * i), ← Array.getElem?_toList]
      simpa [Nat.mul_comm] using e0
    · rw [World.var?_cell hg hvar (2 * i + 1), ← Array.getElem?_toList]
      simpa [Nat.mul_comm] using e1

section
variable {H : Type} {enc : TypeId × Value → H} {w : World} {base : Nat} {spare : Nat → Bool} {held : Bool}

/-- One place of a list. -/
theorem one_at {cs : List Value} {i : Nat} {v : Value} (h : (cs.drop i).take 1 = [v]) : cs[i]? = some v := by
  have := congrArg (·[0]?) h
  simpa [List.getElem?_take, List.getElem?_drop] using this

/-- A prefix, as it is read. -/
theorem pref_cells {fuel : Nat} {cs : List Value} {p : List MemPlace} {a b : Int} (h : DataW.trod enc Tryz.prog w base spare held fuel 70 cs = some (.agg [.lit (.int .i32 a), .lit (.int .i64 b)], p)) :
    cs[0]? = some (.int .i32 a) ∧ cs[1]? = some (.int .i64 b) := by
  obtain ⟨xs, n, _, hx, hl, hlen, hf⟩ := DataW.trod_struct Tryz.underlying70 h
  have hlen' : xs.length = 2 := hlen
  have f0 := hf 0 _ rfl
  change DataW.trod enc Tryz.prog w base spare held n 21 ((cs.drop 0).take (Tryz.prog.cellsOf 21)) = _ at f0
  rw [cellsRune, List.getElem?_eq_getElem (by omega)] at f0
  have f1 := hf 1 _ rfl
  change DataW.trod enc Tryz.prog w base spare held n 3 ((cs.drop 1).take (Tryz.prog.cellsOf 3)) = _ at f1
  rw [cellsInt, List.getElem?_eq_getElem (by omega)] at f1
  obtain ⟨z0, e0, g0, _⟩ := DataW.trod_int Tryz.underlying21 f0
  obtain ⟨z1, e1, g1, _⟩ := DataW.trod_int Tryz.underlying3 f1
  have hm : xs.map (·.1) = [.lit (.int .i32 a), .lit (.int .i64 b)] := by
    have := congrArg Prod.fst hx
    simpa using this.symm
  have m0 := congrArg (·[0]?) hm
  have m1 := congrArg (·[1]?) hm
  simp only [List.getElem?_map, List.getElem?_eq_getElem (show 0 < xs.length by omega), List.getElem?_eq_getElem (show 1 < xs.length by omega), g0, g1] at m0 m1
  simp at m0 m1
  subst m0 m1
  exact ⟨one_at e0, one_at e1⟩

/-- A text, as a map holds it. -/
theorem elemAt_str {n : Nat} {v : Value} {z : DataW H × List MemPlace} (h : elemAt enc Tryz.prog w base spare held n 9 v = some z) : ∃ s : ByteArray, v = .string s ∧ z.1 = .lit (.string s.data.toList) := by
  unfold elemAt at h
  split at h
  · rename_i hf
    obtain ⟨s, hc, hz, _⟩ := DataW.trod_string Tryz.underlying9 h
    refine ⟨s, ?_, by rw [hz]⟩
    cases v <;> simp_all [Value.formed, Value.cells, Tryz.underlying9]
  · cases h
end

set_option maxRecDepth 100000 in
theorem pref_of {W : World} (h : Lib.VarReads Tryz.prog W "voltaic/units.prefixes" Rows.laid_voltaic_units_prefixes) : PrefTab W := by
  obtain ⟨g, t, cs, fuel, p, hg, hty, hvar, hd⟩ := h
  obtain rfl := Option.some.inj (gPref.symm.trans hg)
  obtain rfl := Option.some.inj (gPrefType.symm.trans hty)
  have key : ∀ i, i < 10 → W.cell? ⟨2, 2 * i, none⟩ = some (.int .i32 (ltr i)) ∧ W.cell? ⟨2, 2 * i + 1, none⟩ = some (.int .i64 (pwr i)) := by
    intro i hi
    obtain ⟨fuel', d, q, hdi, he⟩ := Lib.array_elem Tryz.underlying103 hd i hi
    have hdv : d = .agg [.lit (.int .i32 (ltr i)), .lit (.int .i64 (pwr i))] := by
      match i, hi, hdi with
      | 0, _, hdi => exact (Option.some.inj hdi).symm
      | 1, _, hdi => exact (Option.some.inj hdi).symm
      | 2, _, hdi => exact (Option.some.inj hdi).symm
      | 3, _, hdi => exact (Option.some.inj hdi).symm
      | 4, _, hdi => exact (Option.some.inj hdi).symm
      | 5, _, hdi => exact (Option.some.inj hdi).symm
      | 6, _, hdi => exact (Option.some.inj hdi).symm
      | 7, _, hdi => exact (Option.some.inj hdi).symm
      | 8, _, hdi => exact (Option.some.inj hdi).symm
      | 9, _, hdi => exact (Option.some.inj hdi).symm
    subst hdv
    rw [cellsPref] at he
    obtain ⟨c0, c1⟩ := pref_cells he
    rw [List.getElem?_take, if_pos (by decide), List.getElem?_drop] at c0 c1
    constructor
    · rw [World.var?_cell hg hvar (2 * i), ← Array.getElem?_toList]
      simpa [Nat.mul_comm] using c0
    · rw [World.var?_cell hg hvar (2 * i + 1), ← Array.getElem?_toList]
      simpa [Nat.mul_comm] using c1
  intro j v hv
  have hj : j < 20 := (List.getElem?_eq_some_iff.1 hv).1
  rw [Nat.zero_add]
  match j, hj, hv with
  | 0, _, hv => cases hv; exact (key 0 (by decide)).1
  | 1, _, hv => cases hv; exact (key 0 (by decide)).2
  | 2, _, hv => cases hv; exact (key 1 (by decide)).1
  | 3, _, hv => cases hv; exact (key 1 (by decide)).2
  | 4, _, hv => cases hv; exact (key 2 (by decide)).1
  | 5, _, hv => cases hv; exact (key 2 (by decide)).2
  | 6, _, hv => cases hv; exact (key 3 (by decide)).1
  | 7, _, hv => cases hv; exact (key 3 (by decide)).2
  | 8, _, hv => cases hv; exact (key 4 (by decide)).1
  | 9, _, hv => cases hv; exact (key 4 (by decide)).2
  | 10, _, hv => cases hv; exact (key 5 (by decide)).1
  | 11, _, hv => cases hv; exact (key 5 (by decide)).2
  | 12, _, hv => cases hv; exact (key 6 (by decide)).1
  | 13, _, hv => cases hv; exact (key 6 (by decide)).2
  | 14, _, hv => cases hv; exact (key 7 (by decide)).1
  | 15, _, hv => cases hv; exact (key 7 (by decide)).2
  | 16, _, hv => cases hv; exact (key 8 (by decide)).1
  | 17, _, hv => cases hv; exact (key 8 (by decide)).2
  | 18, _, hv => cases hv; exact (key 9 (by decide)).1
  | 19, _, hv => cases hv; exact (key 9 (by decide)).2

set_option maxRecDepth 100000 in
theorem units_find (l : List UInt8) : (Rows.laid_voltaic_voltaicref_units : DataW Unit).atKey (.string l) .nil = (match unitR l with | some u => .lit (.string u) | none => .nil) := by
  by_cases he : l = []
  · subst he; rfl
  by_cases h65 : l = [65]
  · subst h65; rfl
  by_cases h70 : l = [70]
  · subst h70; rfl
  by_cases h72 : l = [72]
  · subst h72; rfl
  by_cases h72_122 : l = [72, 122]
  · subst h72_122; rfl
  by_cases h83 : l = [83]
  · subst h83; rfl
  by_cases h86 : l = [86]
  · subst h86; rfl
  by_cases h87 : l = [87]
  · subst h87; rfl
  by_cases h115 : l = [115]
  · subst h115; rfl
  by_cases h206_169 : l = [206, 169]
  · subst h206_169; rfl
  by_cases h226_132_166 : l = [226, 132, 166]
  · subst h226_132_166; rfl
  have e : unitR l = none := by
    unfold unitR
    rw [if_neg (by simp only [not_or]; exact ⟨he, h206_169, h70, h72, h86, h65, h83, h87, h115, h72_122⟩), if_neg h226_132_166]
  rw [e]
  have f : ∀ a : List UInt8, l ≠ a → (Lit.string a).sameKey (.string l) = false := fun a ha => by
    simp only [Lit.sameKey, beq_eq_false_iff_ne]
    exact fun h => ha h.symm
  simp only [Rows.laid_voltaic_voltaicref_units, DataW.atKey, List.find?, f _ he, f _ h65, f _ h70, f _ h72, f _ h72_122, f _ h83, f _ h86, f _ h87, f _ h115, f _ h206_169, f _ h226_132_166]

set_option maxRecDepth 100000 in
theorem um_of {W : World} (h : Lib.VarReads Tryz.prog W "voltaic/voltaicref.units" Rows.laid_voltaic_voltaicref_units) : UM W := by
  obtain ⟨g, t, cs, fuel, p, hg, hty, hvar, hd⟩ := h
  obtain rfl := Option.some.inj (gUni.symm.trans hg)
  obtain rfl := Option.some.inj (gUniType.symm.trans hty)
  rcases open_map Tryz.underlying67 hd with ⟨_, hx⟩ | ⟨bm, es, clock, m, rfl, hcs, hb, _, F, hx⟩
  · simp [Rows.laid_voltaic_voltaicref_units] at hx
  simp only [Prod.mk.injEq] at hx
  have hcell : W.cell? ⟨1, 0, none⟩ = some (.map (some bm)) := by
    have := World.var?_cell hg hvar 0
    rw [Array.eq_one_of_toList hcs] at this
    simpa using this
  refine ⟨bm, hcell, (Array.getElem?_eq_some_iff.1 hb).1, fun wx hwx s hs => ?_⟩
  have hb2 : wx.heap[bm]? = some (.map es clock) := hwx.trans hb
  have zero : (zeroValue 9).run Tryz.prog wx = .ok (.string ⟨#[]⟩) wx := by kernel_rfl
  rcases fit_lookup_ok (w := wx) keyS Tryz.underlying67 zero hb2 F (keyOf_string_mk (s := s) Tryz.underlying9 (by unfold maxLen; omega)) with ⟨hrun, hat⟩ | ⟨v, y, hrun, hRv, hat, _⟩
  · have h := hat .nil
    rw [← hx.1, units_find] at h
    rw [hrun, unitV]
    cases hu : unitR s.data.toList with
    | none => rfl
    | some u => rw [hu] at h; cases h
  · obtain ⟨u, rfl, hz⟩ := elemAt_str hRv
    have h := hat .nil
    rw [← hx.1, units_find, hz] at h
    cases hu : unitR s.data.toList with
    | none => rw [hu] at h; cases h
    | some u' =>
      rw [hu] at h
      simp only [DataW.lit.injEq, Lit.string.injEq] at h
      rw [hrun, unitV, hu, h]

/-- The powers, as the list has them. -/
def pwS : List (List UInt8 × Int) := [([], 0), ([71], 9), ([77], 6), ([84], 12), ([102], -15), ([107], 3), ([109], -3), ([110], -9), ([112], -12), ([117], -6), ([194, 181], -6), ([206, 188], -6)]

theorem pwS_pwL : ∀ x ∈ pwS, x ∈ pwL := by decide
theorem pwL_pwS : ∀ x ∈ pwL, x ∈ pwS := by decide

set_option maxRecDepth 100000 in
theorem pm_of {W : World} (h : Lib.VarReads Tryz.prog W "voltaic/voltaicref.powers" Rows.laid_voltaic_voltaicref_powers) : PM W := by
  obtain ⟨g, t, cs, fuel, p, hg, hty, hvar, hd⟩ := h
  obtain rfl := Option.some.inj (gPwr.symm.trans hg)
  obtain rfl := Option.some.inj (gPwrType.symm.trans hty)
  rcases open_map Tryz.underlying65 hd with ⟨_, hx⟩ | ⟨bm, es, clock, m, rfl, hcs, hb, _, F, hx⟩
  · simp [Rows.laid_voltaic_voltaicref_powers] at hx
  simp only [Prod.mk.injEq] at hx
  have hcell : W.cell? ⟨0, 0, none⟩ = some (.map (some bm)) := by
    have := World.var?_cell hg hvar 0
    rw [Array.eq_one_of_toList hcs] at this
    simpa using this
  have e : (Rows.laid_voltaic_voltaicref_powers : DataW Unit) = .map (pwS.map fun x => (.string x.1, .lit (.int .i64 x.2))) := by rfl
  have hL := hx.1
  rw [e] at hL
  simp only [DataW.map.injEq] at hL
  refine ⟨bm, es, clock, hcell, hb, F.stamped, fun x hxm => ?_, fun q r hm => ?_⟩
  · obtain ⟨y, hy⟩ := F.reads x hxm
    obtain ⟨s, hk, hk1, _⟩ := string_of_keyOf Tryz.underlying9 (rd_key hy)
    obtain ⟨z, hz, hyz⟩ := rd_val hy
    obtain ⟨a, hv, rfl, _⟩ := elemAt_int Tryz.underlying3 hz
    have hmem : y ∈ pwS.map fun x => ((.string x.1, .lit (.int .i64 x.2)) : Lit × DataW Unit) := by
      rw [hL]
      exact mem_sorted.2 (List.mem_map.2 ⟨x, hxm, rg_of hy⟩)
    obtain ⟨⟨q, r⟩, hqr, hyq⟩ := List.mem_map.1 hmem
    have y1 : Lit.string q = y.1 := congrArg Prod.fst hyq
    have y2 : DataW.lit (.int .i64 r) = y.2 := congrArg Prod.snd hyq
    rw [hk1, Lit.string.injEq] at y1
    rw [hyz] at y2
    simp only [DataW.lit.injEq, Lit.int.injEq, true_and] at y2
    refine ⟨q, r, pwS_pwL _ hqr, by rw [hk, y1], by rw [hv, y2]⟩
  · have hmem : ((.string q, .lit (.int .i64 r)) : Lit × DataW Unit) ∈ (es.toList.map (rg Tryz.prog 9 (elemAt (fun _ => ()) Tryz.prog W 0 (fun _ => true) false m 3))).foldr DataW.insert [] := by
      rw [← hL]
      exact List.mem_map.2 ⟨(q, r), pwL_pwS _ hm, rfl⟩
    obtain ⟨x, hxm, hxr⟩ := List.mem_map.1 (mem_sorted.1 hmem)
    obtain ⟨y, hy⟩ := F.reads x hxm
    rw [rg_of hy] at hxr
    obtain ⟨s, hk, hk1, _⟩ := string_of_keyOf Tryz.underlying9 (rd_key hy)
    obtain ⟨z, hz, hyz⟩ := rd_val hy
    obtain ⟨a, hv, rfl, _⟩ := elemAt_int Tryz.underlying3 hz
    rw [hxr] at hk1 hyz
    simp only [Lit.string.injEq] at hk1
    simp only [DataW.lit.injEq, Lit.int.injEq, true_and] at hyz
    exact ⟨x, hxm, by rw [hk, hk1], by rw [hv, hyz]⟩

end Go.Proofs.YtgdiepfknfnmjaaGreatDoor
