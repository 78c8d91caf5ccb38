/- For every list of texts and every kind, voltaiclaw.SynthBuilds returns true and leaves its arguments as they were: what Build answers is what the document says of these values; the arguments together are of bulk at most 1048576 (the second form). -/
import Derived.Test.YtbihhkcgiepgaaeGreatDoorYLaw
import Derived.Test.YtbihhkcgiepgaaeGreatDoorCards
import Derived.Test.YtbihhkcgiepgaaeGreatDoorTie
import Derived.ProofKit
import Derived.OpenShut
import Derived.ShutString
import Derived.ChangeOld
import Derived.Below
import Derived.Deep.DeepHandedRow
import Derived.Lib.LaidTab
import Derived.Lib.LaidU8
import Derived.Lib.SmallJoins
import Derived.Deep.Slices
namespace Go.Proofs.YtbihhkcgiepgaaeGreatDoor
open Go.ChangeShapes Go.WideShapes Go.ChangeAt Go.RowKit Go.Joins Go.Deep
set_option linter.unusedVariables false
set_option linter.unusedSimpArgs false

theorem ownK : ownKnob Tryz.prog.godebug = none := by kernel_rfl
theorem laidOutK : laidOutB Tryz.prog = true := by kernel_rfl
theorem cellsQ : Tryz.prog.cellsOf 24 = 1 := by kernel_rfl
theorem gPow : Tryz.prog.globalNamed "internal/strconv.uint64pow10" = some 4 := by kernel_rfl
theorem gPowType : (Tryz.prog.globals[4]?).map (·.type) = some 354 := by kernel_rfl
theorem cellsU64 : Tryz.prog.cellsOf 162 = 1 := by kernel_rfl
theorem cellsPow : Tryz.prog.cellsOf 354 = 20 := by kernel_rfl

theorem tab10_of {W : World} (h : Lib.VarReads Tryz.prog W "internal/strconv.uint64pow10" Rows.laid_internal_strconv_uint64pow10) : Tab10 W := by
  obtain ⟨g, t, cs, fuel, p, hg, hty, hvar, hd⟩ := h
  obtain rfl := Option.some.inj (gPow.symm.trans hg)
  obtain rfl := Option.some.inj (gPowType.symm.trans hty)
  have e : (Rows.laid_internal_strconv_uint64pow10 : DataW Unit) = Lib.tabData .u64 Lib.pow10Tab := by kernel_rfl
  rw [e] at hd
  have hcs := Lib.cells_of_tab Tryz.underlying354 Tryz.underlying162 cellsU64 cellsPow hd
  unfold Tab10 Lib.TabIs
  rw [hvar, ← hcs]

theorem list_choose {α : Type} {P : Nat → α → Prop} : ∀ n : Nat, (∀ i, i < n → ∃ x, P i x) → ∃ xs : List α, xs.length = n ∧ ∀ i (h : i < xs.length), P i xs[i] := by
  intro n
  induction n with
  | zero => intro _; exact ⟨[], rfl, fun i h => by simp at h⟩
  | succ n ih =>
    intro h
    obtain ⟨xs, h1, h2⟩ := ih (fun i hi => h i (by omega))
    obtain ⟨x, hx⟩ := h n (by omega)
    refine ⟨xs ++ [x], by simp [h1], fun i hi => ?_⟩
    by_cases hlt : i < xs.length
    · rw [List.getElem_append_left hlt]
      exact h2 i hlt
    · have : i = n := by simp at hi; omega
      subst this
      rw [List.getElem_append_right (by omega)]
      simpa [h1] using hx

theorem bulk_mem {H : Type} {d : DataW H} {l : List (DataW H)} (h : d ∈ l) : Rows.uptoBulk d ≤ Rows.uptoBulkAll l := by
  induction l with
  | nil => cases h
  | cons x r ih =>
    simp only [Rows.uptoBulkAll]
    rcases List.mem_cons.1 h with rfl | h
    · omega
    · have := ih h
      omega

theorem sizes_bulk {H : Type} : ∀ (ls : List ByteArray) (ds : List (DataW H)), ls.length = ds.length → (∀ i (h : i < ls.length) (h2 : i < ds.length), (ls[i]).size + 1 ≤ Rows.uptoBulk ds[i]) → (ls.map fun s => s.size + 1).sum ≤ Rows.uptoBulkAll ds
  | [], [], _, _ => by simp
  | p :: ps, d :: ds, h, hk => by
    have h1 := sizes_bulk ps ds (by simpa using h) (fun i hi h2 => hk (i + 1) (by simpa using hi) (by simpa using h2))
    have h2 : p.size + 1 ≤ Rows.uptoBulk d := hk 0 (by simp) (by simp)
    simp only [List.map_cons, List.sum_cons, Rows.uptoBulkAll]
    omega
  | [], d :: ds, h, _ => by simp at h
  | p :: ps, [], h, _ => by simp at h

theorem texts_read {H : Type} {enc : TypeId × Value → H} {W : World} {m : Nat} {c1 : Value} {y1 : DataW H × List MemPlace} (hy1 : DataW.trod enc Tryz.prog W 0 (fun _ => true) true m 22 [c1] = some y1) (hbulk : Rows.uptoBulk y1.1 ≤ 1048576) :
    ∃ ls, RowG sv W c1 ls ∧ (∀ c, c1 = .slice none 0 c → c = 0) ∧ (ls.map fun s => s.size + 1).sum ≤ 1048576 := by
  rcases open_slice Tryz.underlying22 hy1 with ⟨hcs, _⟩ | ⟨a, len, cap, mm, nn, D, Pl, hcs, hb, hl, hm, hmm, hx, hel⟩
  · obtain rfl : c1 = .slice none 0 0 := by simpa using hcs
    exact ⟨[], ⟨none, 0, rfl, by simp, by unfold maxLen; omega, fun i h => by simp at h⟩, fun c e => by simpa using e.symm, by simp⟩
  · obtain rfl : c1 = .slice (some a) len cap := by simpa using hcs
    have hlm : len ≤ mm := by rw [hmm]; split <;> omega
    obtain ⟨b, off, spot⟩ := a
    have key : ∀ i, i < len → ∃ s : ByteArray, W.cell? ((⟨b, off, spot⟩ : Addr).add (i * 1)) = some (.string s) ∧ s.size + 1 ≤ Rows.uptoBulk (D i) := by
      intro i hi
      obtain ⟨cs', h1, h2⟩ := hel i (by omega)
      rw [cellsQ] at h1
      obtain ⟨_, hlen, hc⟩ := World.cells?_some h1
      obtain ⟨s, e5, e6, _⟩ := DataW.trod_string Tryz.underlying24 h2
      have hc0 := hc 0 (by omega)
      have e7 : cs'[0]? = some (.string s) := by
        have := congrArg (·[0]?) e5
        simpa using this
      refine ⟨s, ?_, ?_⟩
      · have e8 : ((⟨b, off, spot⟩ : Addr).add (i * 1)).add 0 = (⟨b, off, spot⟩ : Addr).add (i * 1) := by unfold Addr.add; simp
        rw [← e8]
        exact hc0.trans e7
      · have e9 : D i = .lit (.string s.data.toList) := congrArg Prod.fst e6
        rw [e9]
        have e : s.size = s.data.toList.length := Lib.size_eq _
        simp only [Rows.uptoBulk]
        omega
    obtain ⟨ls, hls, hP⟩ := list_choose len key
    have hsum : (ls.map fun s => s.size + 1).sum ≤ 1048576 := by
      have b3 : Rows.uptoBulkAll ((List.range len).map D) ≤ Rows.uptoBulk y1.1 := by
        rw [hx]
        simp only [Rows.uptoBulk]
        omega
      have b4 := sizes_bulk ls ((List.range len).map D) (by simp [hls]) (fun i hi h2 => by
        have := (hP i hi).2
        simpa using this)
      omega
    refine ⟨ls, ⟨some ⟨b, off, spot⟩, cap, by rw [hls], by omega, hm, fun i hi => ?_⟩, fun c e => by simp at e, hsum⟩
    have hspot : spot = none := by
      obtain ⟨z0, _⟩ := hP 0 (by omega)
      have := World.cell?_spot z0
      simpa [Addr.add] using this
    subst hspot
    have q0 := (hP i hi).1
    have ad : (⟨b, off, none⟩ : Addr).add (i * 1) = ⟨b, off + i, none⟩ := by
      unfold Addr.add
      by_cases h : i = 0 <;> simp [h]
    rw [ad] at q0
    exact ⟨b, off, rfl, World.block_lt_of_cell? W _ q0, q0⟩

theorem sum_bounds : ∀ ls : List ByteArray, ls.length ≤ (ls.map fun s => s.size + 1).sum ∧ ∀ i (h : i < ls.length), (ls[i]).size ≤ (ls.map fun s => s.size + 1).sum
  | [] => ⟨by simp, fun i h => by simp at h⟩
  | p :: ps => by
    obtain ⟨h1, h2⟩ := sum_bounds ps
    refine ⟨by simp only [List.map_cons, List.sum_cons, List.length_cons]; omega, fun i h => ?_⟩
    simp only [List.map_cons, List.sum_cons]
    cases i with
    | zero => simp only [List.getElem_cons_zero]; omega
    | succ i =>
      simp only [List.getElem_cons_succ]
      have := h2 i (by simpa using h)
      omega

theorem reads_b {W : World} (h : laidMetH Tryz.prog Rows.synthBuildsUptoRow.laid W) {n : String} {d : DataW Unit} (hm : (n, d) ∈ Rows.synthBuildsUptoRow.laid) : Lib.VarReads Tryz.prog W n d := by
  rw [MakeChecks.laidMetH_plain _ _ _ (by kernel_rfl)] at h
  exact Lib.laidMet.reads h hm

theorem in_list {n : String} {d : DataW Unit} (i : Nat) (h : Rows.synthBuildsUptoRow.laid[i]? = some (n, d)) : (n, d) ∈ Rows.synthBuildsUptoRow.laid := List.mem_of_getElem? h

set_option maxRecDepth 100000 in
theorem contract (H : Type) (enc : TypeId × Value → H) (W : World) (base : Nat) (args : Array Value) (ds gs : List (DataW H)) (before : List MemPlace)
    (hval : ∀ (j : Nat) t v, Tryz.f6.params[j]? = some t → args[j]? = some v → Value.okWide Tryz.prog W .any base t v)
    (hW : DataW.Whole enc Tryz.prog Tryz.f6.params.toList Rows.synthBuildsSpec.vars false W args.toList ds gs before) (hcond : Rows.uptoSmall H (ds ++ gs) = true) (hL : laidMetH Tryz.prog Rows.synthBuildsUptoRow.laid W) (hS : W.ShapedOpen Tryz.prog) :
    Calls Tryz.prog 6 args W fun e W' => ∃ v, e = .returned v ∧ Rows.synthBuildsSpec.post enc Tryz.prog Tryz.f6 false true false false W args v W' := by
  have hW' := hW
  obtain ⟨p, q, hA0, hV, rfl, hfz, hnd⟩ := hW
  have hA : DataW.TrodAll enc Tryz.prog W 0 (fun _ => true) true Tryz.f6.params.toList args.toList ds p := hA0
  rw [Tryz.params6] at hA hval
  obtain ⟨v0, vs0, d0, ds0, p0, q0, hargs0, rfl, rfl, h0, r0⟩ := trodAll_cons hA
  obtain ⟨v1, vs1, d1, ds1, p1, q1, hargs1, rfl, rfl, h1, r1⟩ := trodAll_cons r0
  obtain ⟨rfl, rfl, rfl⟩ := trodAll_nil r1
  obtain rfl : args = #[v0, v1] := by cases args; simp_all
  obtain ⟨rfl, rfl⟩ := trodVars_none hV
  have k0 := h0
  have lt0 : ∀ x ∈ p0, x.block < W.heap.size := by obtain ⟨m, hm⟩ := k0; exact DataW.trod_lt m _ _ _ hm
  have k1 := h1
  have lt1 : ∀ x ∈ p1, x.block < W.heap.size := by obtain ⟨m, hm⟩ := k1; exact DataW.trod_lt m _ _ _ hm
  obtain ⟨z1, rfl, rfl, rfl, _⟩ := open_int Tryz.underlying3 (hval 1 3 _ rfl rfl) h1
  have hbulk : Rows.uptoBulk d0 ≤ 1048576 := by
    have h1 := of_decide_eq_true hcond
    simp only [List.append_nil, Rows.uptoBulkAll] at h1
    omega
  obtain ⟨a0, len, cap, rfl⟩ := okWide_slice Tryz.underlying22 (hval 0 22 _ rfl rfl)
  obtain ⟨m, hy1⟩ := h0
  obtain ⟨ls, hrow, hnil, hsum⟩ := texts_read (y1 := (d0, p0)) hy1 hbulk
  obtain ⟨b1, b2⟩ := sum_bounds ls
  obtain ⟨ml, hml⟩ := Tryz.laysM145.s1_3 W hS
  refine (synthBuilds_any _ ls z1 W hrow hnil (by omega) (fun i h => by have := b2 i h; omega) ⟨ml, hml⟩ (tab10_of (reads_b hL (in_list 2 rfl)))).mono fun e W' ⟨he, hg⟩ => ?_
  subst he
  have bel : Below W.heap.size W W' := gr_below hg
  exact ⟨_, rfl, _, _, _, [], _, [], hW', trodAll_mk1 (shut_bool Tryz.underlying4 _), (trodAll_cons_mk (Below.trod laidOutK (by kernel_rfl) (of_decide_eq_true (by kernel_rfl)) k0 bel lt0) (trodAll_cons_mk (Below.trod laidOutK (by kernel_rfl) (of_decide_eq_true (by kernel_rfl)) k1 bel lt1) trodAll_mk0)), rfl, bel.frame _, fun h => by cases h⟩

/-- A block with other cells. -/
def layIn (cs : Array Value) : Obj → Obj
  | .cells _ t frozen => .cells cs t frozen
  | o => o

/-- A world for the witness: the tables hold what their initialisers lay. -/
noncomputable def laidWorld (os : Os) : World :=
  { World.holding Tryz.prog os ⟨#[], #[], []⟩ with heap := ((((((World.holding Tryz.prog os ⟨#[], #[], []⟩).heap.modify 5 (layIn ([0, 1, 28, 2, 29, 14, 24, 3, 30, 22, 20, 15, 25, 17, 4, 8, 31, 27, 13, 23, 21, 19, 16, 7, 26, 12, 18, 6, 11, 5, 10, 9].map fun z : Nat => Value.int .u8 z).toArray)).modify 6 (layIn ([0, 1, 56, 2, 57, 49, 28, 3, 61, 58, 42, 50, 38, 29, 17, 4, 62, 47, 59, 36, 45, 43, 51, 22, 53, 39, 33, 30, 24, 18, 12, 5, 63, 55, 48, 27, 60, 41, 37, 16, 46, 35, 44, 21, 52, 32, 23, 11, 54, 26, 40, 15, 34, 20, 31, 10, 25, 14, 19, 9, 13, 8, 7, 6].map fun z : Nat => Value.int .u8 z).toArray)).modify 4 (layIn ([1, 10, 100, 1000, 10000, 100000, 1000000, 10000000, 100000000, 1000000000, 10000000000, 100000000000, 1000000000000, 10000000000000, 100000000000000, 1000000000000000, 10000000000000000, 100000000000000000, 1000000000000000000, 10000000000000000000].map fun z : Nat => Value.int .u64 z).toArray)).modify 3 (layIn ([128, 191, 160, 191, 128, 159, 144, 191, 128, 143, 0, 0, 0, 0, 0, 0, 0, 0, 0, 0, 0, 0, 0, 0, 0, 0, 0, 0, 0, 0, 0, 0].map fun z : Nat => Value.int .u8 z).toArray)).modify 2 (layIn (Go.Pinned.utf8FirstZ.map fun z : Nat => Value.int .u8 z).toArray)) }

set_option maxRecDepth 100000 in
theorem laid_met (os : Os) : laidMetH Tryz.prog Rows.synthBuildsUptoRow.laid ((laidWorld os).forCall (fun _ _ => 0) ⟨#[], #[.slice none 0 0, .int .i64 0], []⟩).memory := by
  rw [MakeChecks.laidMetH_plain _ _ _ (by kernel_rfl)]
  exact laidMet_of_run' 8 (by kernel_rfl) (by kernel_rfl)

theorem reads_arg (os : Os) {H : Type} (enc : TypeId × Value → H) : ∃ places, DataW.whole enc Tryz.prog ((laidWorld os).forCall (fun _ _ => 0) ⟨#[], #[.slice none 0 0, .int .i64 0], []⟩).memory Tryz.f6.params.toList Rows.synthBuildsSpec.vars false (#[.slice none 0 0, .int .i64 0] : Array Value).toList 8 = some ([.nil, .lit (.int .i64 0)], [], places) :=
  ⟨[], by kernel_rfl⟩

set_option maxRecDepth 100000 in
theorem lifted (os : Os) (started : os.Started) (H : Type) (enc : TypeId × Value → H) (F : Stop.Interp) :
    ReturnsInHanded {} Tryz.checked os 6 .any ((Rows.OpenSpec.upto Rows.synthBuildsSpec).preRow enc Tryz.prog Tryz.f6 Rows.synthBuildsUptoRow.domain false Rows.synthBuildsUptoRow.laid) (((Rows.OpenSpec.upto Rows.synthBuildsSpec).at F).post enc Tryz.prog Tryz.f6 false true false false) := by
  obtain ⟨places, hx⟩ := reads_arg os enc
  refine returnsInHanded_of_row (C := Tryz.checked) (s := Rows.OpenSpec.upto Rows.synthBuildsSpec) ownK started (by kernel_rfl) Tryz.func6
    (witness_row_at (enc := enc) (C := Tryz.checked) false (laidWorld os) #[.slice none 0 0, .int .i64 0] rfl (by kernel_rfl) (by kernel_rfl) (by kernel_rfl)
      (OpenSpec.preRow_of_cond 8 hx (by kernel_rfl) (fun k hk => by cases hk; kernel_rfl) (by kernel_rfl) (laid_met os))) ?_
  intro W base args ds gs before hval hW _ hcond _ hL hS _
  exact contract H enc W base args ds gs before hval hW (hcond _ rfl) hL hS

/-- What the claim's row says of the function's reach, one by one: together they are too much for one look. -/
theorem reach_inPlace : (Rows.synthBuildsUptoRow.inPlace == Tryz.pinned.checked.prog.inPlace 6) = true := by kernel_rfl
theorem reach_unfollowed : (Rows.synthBuildsUptoRow.unfollowed == Tryz.pinned.checked.prog.unfollowed 6) = true := by kernel_rfl
theorem reach_recurses : (Rows.synthBuildsUptoRow.recurses == Tryz.pinned.checked.prog.recurses 6) = true := by kernel_rfl
theorem reach_named : (Rows.synthBuildsUptoRow.named == Tryz.pinned.checked.prog.varsNamed 6) = true := by kernel_rfl
theorem facts : joinedFacts Tryz.pinned.checked.prog 6 Tryz.f6 (Rows.OpenSpec.upto Rows.synthBuildsSpec).bare Rows.synthBuildsUptoRow = true := by
  unfold joinedFacts
  rewrite [reach_inPlace, reach_unfollowed, reach_recurses, reach_named]
  kernel_rfl

theorem said : Rows.SynthBuildsUptoSaid :=
  OpenClaim.holds_of_cond 6 Tryz.f6 rfl rfl rfl rfl rfl rfl rfl ⟨rfl, rfl, rfl, rfl, rfl⟩ rfl rfl rfl rfl rfl (by kernel_rfl) Tryz.func6 facts
    (of_decide_eq_true (by kernel_rfl)) (by unfold Func.isWrapper; first | (rw [if_pos (by decide +kernel)]; kernel_rfl) | (rw [if_neg (by decide +kernel)]; exact ⟨rfl, rfl⟩))
    (fun os started H enc _ F => by rw [OpenClaim.pre_eq_preRow]; exact lifted os started H enc F)

/-- No parameter wants a stand-in; the program's own looks are off. -/
theorem plain (f : FuncId) (fn : Func) (hf : Tryz.pinned.checked.prog.funcNamed "voltaic/voltaiclaw.SynthBuilds" = some f) (hfn : Tryz.pinned.checked.prog.funcs[f]? = some fn) :
    false = Tryz.pinned.checked.prog.looks [] ∧ ∀ (j : Nat) t, fn.params[j]? = some t → Tryz.pinned.checked.prog.wantsStandIn t = false := by
  obtain rfl : f = 6 := Option.some.inj ((show Tryz.prog.funcNamed "voltaic/voltaiclaw.SynthBuilds" = some 6 by kernel_rfl).symm.trans hf) |>.symm
  obtain rfl : fn = Tryz.f6 := (Option.some.inj (Tryz.func6.symm.trans hfn)).symm
  refine ⟨by kernel_rfl, fun j t ht => ?_⟩
  rw [Tryz.params6] at ht
  have hm : t ∈ [22, 3] := by simpa using Array.mem_of_getElem? ht
  have hall : ([22, 3].all fun u => !Tryz.prog.wantsStandIn u) = true := by kernel_rfl
  exact (show Tryz.prog.wantsStandIn t = false by simpa using List.all_eq_true.1 hall t hm)

/-- The card. -/
theorem synthBuilds_holds : Rows.SynthBuildsUptoCardSaid :=
  Claim7.holds_tied_plain_at .later [] _ _ _ _ said (fun _ h => by cases h) (by kernel_rfl) (fun _ h => by cases h) synthBuildsUpto_row_tie rfl ⟨rfl, rfl⟩ (by kernel_rfl) rfl plain (by kernel_rfl)
#print axioms synthBuilds_holds
end Go.Proofs.YtbihhkcgiepgaaeGreatDoor
