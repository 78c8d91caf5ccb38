/- For every fraction and every unit, as texts of bulk at most 1048576, voltaiclaw.UnitsWrite returns true and leaves its arguments as they were: units.Print tells what the document's own way of showing a quantity tells, and what is printed is read as the same. The condition: the statement's second form (its bound on the arguments' bulk); the package-level tables start as the program's text lays them. -/
import Derived.Test.YtgdiepfknfnmjaaGreatDoorULawW
import Derived.Test.YtgdiepfknfnmjaaGreatDoorUTab
import Derived.Deep.DeepWitnessRowRef
namespace Go.Proofs.YtgdiepfknfnmjaaGreatDoor
open Go.ChangeShapes Go.WideShapes Go.ChangeAt Go.WideMaps Go.WideElems Go.RowKit Go.Joins Go.Deep
set_option linter.unusedVariables false

theorem reads_w {W : World} (h : laidMetH Tryz.prog Rows.unitsWriteUptoRow.laid W) {n : String} {d : DataW Unit} (hm : (n, d) ∈ Rows.unitsWriteUptoRow.laid) : Lib.VarReads Tryz.prog W n d := by
  rw [MakeChecks.laidMetH_plain _ _ _ (by kernel_rfl)] at h
  exact Lib.laidMet.reads h hm

theorem in_list {n : String} {d : DataW Unit} (i : Nat) (h : Rows.unitsWriteUptoRow.laid[i]? = some (n, d)) : (n, d) ∈ Rows.unitsWriteUptoRow.laid := List.mem_of_getElem? h

set_option maxRecDepth 100000 in
theorem contract (H : Type) (enc : TypeId × Value → H) (W : World) (base : Nat) (args : Array Value) (ds gs : List (DataW H)) (before : List MemPlace)
    (hval : ∀ (j : Nat) t v, Tryz.f4.params[j]? = some t → args[j]? = some v → Value.okWide Tryz.prog W .any base t v)
    (hW : DataW.Whole enc Tryz.prog Tryz.f4.params.toList Rows.unitsWriteSpec.vars false W args.toList ds gs before) (hcond : Rows.uptoSmall H (ds ++ gs) = true) (hL : laidMetH Tryz.prog Rows.unitsWriteUptoRow.laid W) (hS : W.ShapedOpen Tryz.prog) :
    Calls Tryz.prog 4 args W fun e W' => ∃ v, e = .returned v ∧ Rows.unitsWriteSpec.post enc Tryz.prog Tryz.f4 false true false false W args v W' := by
  have hW' := hW
  obtain ⟨p, q, hA0, hV, rfl, hfz, hnd⟩ := hW
  have hA : DataW.TrodAll enc Tryz.prog W 0 (fun _ => true) true Tryz.f4.params.toList args.toList ds p := hA0
  rw [Tryz.params4] at hA hval
  obtain ⟨v0, vs0, d0, ds0, p0, q0, hargs, rfl, rfl, h0, r0⟩ := trodAll_cons hA
  obtain ⟨v1, vs1, d1, ds1, p1, q1, hargs1, rfl, rfl, h1, r1⟩ := trodAll_cons r0
  obtain ⟨rfl, rfl, rfl⟩ := trodAll_nil r1
  obtain rfl : args = #[v0, v1] := by cases args; simp_all
  obtain ⟨rfl, rfl⟩ := trodVars_none hV
  have k0 := h0
  have lt0 : ∀ x ∈ p0, x.block < W.heap.size := by obtain ⟨m, hm⟩ := k0; exact DataW.trod_lt m _ _ _ hm
  have k1 := h1
  have lt1 : ∀ x ∈ p1, x.block < W.heap.size := by obtain ⟨m, hm⟩ := k1; exact DataW.trod_lt m _ _ _ hm
  obtain ⟨u, rfl, rfl, rfl, hu⟩ := ChangeMaps.open_string Tryz.underlying9 (hval 1 9 _ rfl rfl) h1
  obtain ⟨s, rfl, rfl, rfl, hs⟩ := ChangeMaps.open_string Tryz.underlying23 (hval 0 23 _ rfl rfl) h0
  have hbulk := of_decide_eq_true hcond
  simp only [List.append_nil, Rows.uptoBulkAll, Rows.uptoBulk] at hbulk
  have es : s.size = s.data.toList.length := Lib.size_eq _
  have eu : u.size = u.data.toList.length := Lib.size_eq _
  obtain ⟨ml, hml⟩ := Tryz.laysM145.s1_3 W hS
  have hT : PTabs W ml := ⟨utf8_of (reads_w hL (in_list 7 rfl)) (reads_w hL (in_list 3 rfl)), pref_of (reads_w hL (in_list 4 rfl)), tab10_of (reads_w hL (in_list 2 rfl)), hml⟩
  refine (unitsWrite_any s u ml W (by omega) (by omega) hT (pm_of (reads_w hL (in_list 5 rfl))) (umb_of (reads_w hL (in_list 6 rfl)))).mono fun e W' ⟨he, hg⟩ => ?_
  subst he
  have bel : Below W.heap.size W W' := gr_below hg
  exact ⟨_, rfl, _, _, _, [], _, [], hW', trodAll_mk1 (shut_bool Tryz.underlying4 _), (trodAll_cons_mk (Below.trod laidOutK (by kernel_rfl) (of_decide_eq_true (by kernel_rfl)) k0 bel lt0) (trodAll_cons_mk (Below.trod laidOutK (by kernel_rfl) (of_decide_eq_true (by kernel_rfl)) k1 bel lt1) trodAll_mk0)), rfl, bel.frame _, fun h => by cases h⟩

/-- A block with other cells. -/
def layIn (cs : Array Value) : Obj → Obj
  | .cells _ t frozen => .cells cs t frozen
  | o => o

/-- A world for the witness: the tables hold what their initialisers lay. -/
noncomputable def laidWorld (os : Os) : World :=
  { World.holding Tryz.prog os ⟨#[], #[], []⟩ with heap := (((((((((((World.holding Tryz.prog os ⟨#[], #[], []⟩).heap.modify 7 (layIn #[.int .u8 0, .int .u8 1, .int .u8 28, .int .u8 2, .int .u8 29, .int .u8 14, .int .u8 24, .int .u8 3, .int .u8 30, .int .u8 22, .int .u8 20, .int .u8 15, .int .u8 25, .int .u8 17, .int .u8 4, .int .u8 8, .int .u8 31, .int .u8 27, .int .u8 13, .int .u8 23, .int .u8 21, .int .u8 19, .int .u8 16, .int .u8 7, .int .u8 26, .int .u8 12, .int .u8 18, .int .u8 6, .int .u8 11, .int .u8 5, .int .u8 10, .int .u8 9])).modify 8 (layIn #[.int .u8 0, .int .u8 1, .int .u8 56, .int .u8 2, .int .u8 57, .int .u8 49, .int .u8 28, .int .u8 3, .int .u8 61, .int .u8 58, .int .u8 42, .int .u8 50, .int .u8 38, .int .u8 29, .int .u8 17, .int .u8 4, .int .u8 62, .int .u8 47, .int .u8 59, .int .u8 36, .int .u8 45, .int .u8 43, .int .u8 51, .int .u8 22, .int .u8 53, .int .u8 39, .int .u8 33, .int .u8 30, .int .u8 24, .int .u8 18, .int .u8 12, .int .u8 5, .int .u8 63, .int .u8 55, .int .u8 48, .int .u8 27, .int .u8 60, .int .u8 41, .int .u8 37, .int .u8 16, .int .u8 46, .int .u8 35, .int .u8 44, .int .u8 21, .int .u8 52, .int .u8 32, .int .u8 23, .int .u8 11, .int .u8 54, .int .u8 26, .int .u8 40, .int .u8 15, .int .u8 34, .int .u8 20, .int .u8 31, .int .u8 10, .int .u8 25, .int .u8 14, .int .u8 19, .int .u8 9, .int .u8 13, .int .u8 8, .int .u8 7, .int .u8 6])).modify 6 (layIn #[.int .u64 1, .int .u64 10, .int .u64 100, .int .u64 1000, .int .u64 10000, .int .u64 100000, .int .u64 1000000, .int .u64 10000000, .int .u64 100000000, .int .u64 1000000000, .int .u64 10000000000, .int .u64 100000000000, .int .u64 1000000000000, .int .u64 10000000000000, .int .u64 100000000000000, .int .u64 1000000000000000, .int .u64 10000000000000000, .int .u64 100000000000000000, .int .u64 1000000000000000000, .int .u64 10000000000000000000])).modify 4 (layIn #[.int .u8 128, .int .u8 191, .int .u8 160, .int .u8 191, .int .u8 128, .int .u8 159, .int .u8 144, .int .u8 191, .int .u8 128, .int .u8 143, .int .u8 0, .int .u8 0, .int .u8 0, .int .u8 0, .int .u8 0, .int .u8 0, .int .u8 0, .int .u8 0, .int .u8 0, .int .u8 0, .int .u8 0, .int .u8 0, .int .u8 0, .int .u8 0, .int .u8 0, .int .u8 0, .int .u8 0, .int .u8 0, .int .u8 0, .int .u8 0, .int .u8 0, .int .u8 0])).modify 2 (layIn #[.int .i32 84, .int .i64 12, .int .i32 71, .int .i64 9, .int .i32 77, .int .i64 6, .int .i32 107, .int .i64 3, .int .i32 (-1), .int .i64 0, .int .i32 109, .int .i64 (-3), .int .i32 181, .int .i64 (-6), .int .i32 110, .int .i64 (-9), .int .i32 112, .int .i64 (-12), .int .i32 102, .int .i64 (-15)])).modify 3 (layIn (Go.Pinned.utf8FirstZ.map fun z : Nat => Value.int .u8 z).toArray)).modify 0 (layIn #[.map (some (World.holding Tryz.prog os ⟨#[], #[], []⟩).heap.size)])).modify 1 (layIn #[.map (some ((World.holding Tryz.prog os ⟨#[], #[], []⟩).heap.size + 1))])).push (.map #[⟨.string ⟨#[]⟩, .int .i64 0, 0⟩, ⟨.string ⟨#[71]⟩, .int .i64 9, 1⟩, ⟨.string ⟨#[77]⟩, .int .i64 6, 2⟩, ⟨.string ⟨#[84]⟩, .int .i64 12, 3⟩, ⟨.string ⟨#[102]⟩, .int .i64 (-15), 4⟩, ⟨.string ⟨#[107]⟩, .int .i64 3, 5⟩, ⟨.string ⟨#[109]⟩, .int .i64 (-3), 6⟩, ⟨.string ⟨#[110]⟩, .int .i64 (-9), 7⟩, ⟨.string ⟨#[112]⟩, .int .i64 (-12), 8⟩, ⟨.string ⟨#[117]⟩, .int .i64 (-6), 9⟩, ⟨.string ⟨#[194, 181]⟩, .int .i64 (-6), 10⟩, ⟨.string ⟨#[206, 188]⟩, .int .i64 (-6), 11⟩] 12)).push (.map #[⟨.string ⟨#[]⟩, .string ⟨#[]⟩, 0⟩, ⟨.string ⟨#[65]⟩, .string ⟨#[65]⟩, 1⟩, ⟨.string ⟨#[70]⟩, .string ⟨#[70]⟩, 2⟩, ⟨.string ⟨#[72]⟩, .string ⟨#[72]⟩, 3⟩, ⟨.string ⟨#[72, 122]⟩, .string ⟨#[72, 122]⟩, 4⟩, ⟨.string ⟨#[83]⟩, .string ⟨#[83]⟩, 5⟩, ⟨.string ⟨#[86]⟩, .string ⟨#[86]⟩, 6⟩, ⟨.string ⟨#[87]⟩, .string ⟨#[87]⟩, 7⟩, ⟨.string ⟨#[115]⟩, .string ⟨#[115]⟩, 8⟩, ⟨.string ⟨#[206, 169]⟩, .string ⟨#[206, 169]⟩, 9⟩, ⟨.string ⟨#[226, 132, 166]⟩, .string ⟨#[206, 169]⟩, 10⟩] 11)) }

set_option maxRecDepth 100000 in
theorem laid_met (os : Os) : laidMetH Tryz.prog Rows.unitsWriteUptoRow.laid ((laidWorld os).forCall (fun _ _ => 0) ⟨#[], #[.string ⟨#[]⟩, .string ⟨#[]⟩], []⟩).memory := by
  rw [MakeChecks.laidMetH_plain _ _ _ (by kernel_rfl)]
  exact laidMet_of_run' 8 (by kernel_rfl) (by kernel_rfl)

theorem reads_arg (os : Os) {H : Type} (enc : TypeId × Value → H) : ∃ places, DataW.whole enc Tryz.prog ((laidWorld os).forCall (fun _ _ => 0) ⟨#[], #[.string ⟨#[]⟩, .string ⟨#[]⟩], []⟩).memory Tryz.f4.params.toList Rows.unitsWriteSpec.vars false #[Value.string ⟨#[]⟩, Value.string ⟨#[]⟩].toList 8 = some ([.lit (.string []), .lit (.string [])], [], places) :=
  ⟨[], by kernel_rfl⟩

set_option maxRecDepth 100000 in
theorem lifted (os : Os) (started : os.Started) (H : Type) (enc : TypeId × Value → H) (F : Stop.Interp) :
    ReturnsInHanded {} Tryz.checked os 4 .any ((Rows.OpenSpec.upto Rows.unitsWriteSpec).preRow enc Tryz.prog Tryz.f4 Rows.unitsWriteUptoRow.domain false Rows.unitsWriteUptoRow.laid) (((Rows.OpenSpec.upto Rows.unitsWriteSpec).at F).post enc Tryz.prog Tryz.f4 false true false false) := by
  obtain ⟨places, hx⟩ := reads_arg os enc
  refine returnsInHanded_of_row (C := Tryz.checked) (s := Rows.OpenSpec.upto Rows.unitsWriteSpec) ownK started (by kernel_rfl) Tryz.func4
    (witness_row_atRef (enc := enc) (C := Tryz.checked) false (laidWorld os) #[.string ⟨#[]⟩, .string ⟨#[]⟩] rfl (by kernel_rfl) (by kernel_rfl) (by kernel_rfl)
      (OpenSpec.preRow_of_cond 8 hx (by kernel_rfl) (fun k hk => by cases hk; kernel_rfl) (by kernel_rfl) (laid_met os))) ?_
  intro W base args ds gs before hval hW _ hcond _ hL hS _
  exact contract H enc W base args ds gs before hval hW (hcond _ rfl) hL hS

theorem said : Rows.UnitsWriteUptoSaid :=
  OpenClaim.holds_of_cond 4 Tryz.f4 rfl rfl rfl rfl rfl rfl rfl ⟨rfl, rfl, rfl, rfl, rfl⟩ rfl rfl rfl rfl rfl (by kernel_rfl) Tryz.func4 (by kernel_rfl)
    (of_decide_eq_true (by kernel_rfl)) (by unfold Func.isWrapper; first | (rw [if_pos (by decide +kernel)]; kernel_rfl) | (rw [if_neg (by decide +kernel)]; exact ⟨rfl, rfl⟩))
    (fun os started H enc _ F => by rw [OpenClaim.pre_eq_preRow]; exact lifted os started H enc F)

/-- No parameter wants a stand-in; the program's own looks are off. -/
theorem plain (f : FuncId) (fn : Func) (hf : Tryz.pinned.checked.prog.funcNamed "voltaic/voltaiclaw.UnitsWrite" = some f) (hfn : Tryz.pinned.checked.prog.funcs[f]? = some fn) :
    false = Tryz.pinned.checked.prog.looks [] ∧ ∀ (j : Nat) t, fn.params[j]? = some t → Tryz.pinned.checked.prog.wantsStandIn t = false := by
  obtain rfl : f = 4 := Option.some.inj ((show Tryz.prog.funcNamed "voltaic/voltaiclaw.UnitsWrite" = some 4 by kernel_rfl).symm.trans hf) |>.symm
  obtain rfl : fn = Tryz.f4 := (Option.some.inj (Tryz.func4.symm.trans hfn)).symm
  refine ⟨by kernel_rfl, fun j t ht => ?_⟩
  rw [Tryz.params4] at ht
  have hm : t ∈ [23, 9] := by simpa using Array.mem_of_getElem? ht
  have hall : ([23, 9].all fun u => !Tryz.prog.wantsStandIn u) = true := by kernel_rfl
  exact (show Tryz.prog.wantsStandIn t = false by simpa using List.all_eq_true.1 hall t hm)

/-- The card. -/
theorem unitsWrite_holds : Rows.UnitsWriteUptoCardSaid :=
  Claim7.holds_tied_plain_at .later [] _ _ _ _ said (fun _ h => by cases h) (by kernel_rfl) (fun _ h => by cases h) unitsWriteUpto_row_tie rfl ⟨rfl, rfl⟩ (by kernel_rfl) rfl plain (by kernel_rfl)
#print axioms unitsWrite_holds
end Go.Proofs.YtgdiepfknfnmjaaGreatDoor
