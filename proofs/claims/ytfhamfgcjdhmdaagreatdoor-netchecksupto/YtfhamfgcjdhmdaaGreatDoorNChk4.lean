/- For every net whose bulk is at most 1048576, voltaiclaw.NetChecks returns true and leaves its argument as it was: loops and cuts have nothing in common, there are as many loops as parts, less nodes, and islands more, and each loop comes back. The condition: the statement's second form (its bound on the argument's bulk); net.kinds starts as the program's text lays it. -/
import Derived.Test.YtfhamfgcjdhmdaaGreatDoorNChk3
namespace Go.Proofs.YtfhamfgcjdhmdaaGreatDoor
open Go.ChangeShapes Go.WideShapes Go.ChangeAt Go.RowKit Go.Joins Go.Deep
set_option linter.unusedVariables false

theorem list_choose {α : Type} {P : Nat → α → Prop} : ∀ n : Nat, (∀ i, i < n → ∃ x, P i x) → ∃ xs : List α, xs.length = n ∧ ∀ i (h : i < xs.length), P i xs[i] := by
  intro n
  induction n with
  | zero => intro _; exact ⟨[], rfl, fun i h => by simp at h⟩
  | succ n ih =>
    intro h
    obtain ⟨xs, h1, h2⟩ := ih (fun i hi => h i (by omega))
    obtain ⟨x, hx⟩ := h n (by omega)
    refine ⟨xs ++ [x], by simp [h1], fun i hi => ?_⟩
    by_cases hlt : i < xs.length
    · rw [List.getElem_append_left hlt]
      exact h2 i hlt
    · have : i = n := by simp at hi; omega
      subst this
      rw [List.getElem_append_right (by omega)]
      simpa [h1] using hx

theorem bulk_mem {H : Type} {d : DataW H} {l : List (DataW H)} (h : d ∈ l) : Rows.uptoBulk d ≤ Rows.uptoBulkAll l := by
  induction l with
  | nil => cases h
  | cons x r ih =>
    simp only [Rows.uptoBulkAll]
    rcases List.mem_cons.1 h with rfl | h
    · omega
    · have := ih h
      omega

theorem bulk_pos {H : Type} (d : DataW H) : 1 ≤ Rows.uptoBulk d := by
  unfold Rows.uptoBulk
  split <;> omega

theorem bulk_len {H : Type} : ∀ l : List (DataW H), l.length ≤ Rows.uptoBulkAll l
  | [] => by simp
  | d :: r => by
    have h1 := bulk_len r
    have h2 := bulk_pos d
    simp only [Rows.uptoBulkAll, List.length_cons]
    omega

theorem add_add (b off i j : Nat) (h : 0 < i + j ∨ True) : ((⟨b, off, none⟩ : Addr).add i).add j = ⟨b, off + i + j, none⟩ := by
  unfold Addr.add
  by_cases hi : i = 0 <;> by_cases hj : j = 0 <;> simp [hi, hj]

set_option maxRecDepth 100000 in
theorem contract (H : Type) (enc : TypeId × Value → H) (W : World) (base : Nat) (args : Array Value) (ds gs : List (DataW H)) (before : List MemPlace)
    (hval : ∀ (j : Nat) t v, Tryz.f5.params[j]? = some t → args[j]? = some v → Value.okWide Tryz.prog W .any base t v)
    (hW : DataW.Whole enc Tryz.prog Tryz.f5.params.toList Rows.netChecksSpec.vars false W args.toList ds gs before) (hcond : Rows.uptoSmall H (ds ++ gs) = true) (hL : laidMetH Tryz.prog Rows.netChecksUptoRow.laid W) (hS : W.ShapedOpen Tryz.prog) :
    Calls Tryz.prog 5 args W fun e W' => ∃ v, e = .returned v ∧ Rows.netChecksSpec.post enc Tryz.prog Tryz.f5 false true false false W args v W' := by
  have hW' := hW
  obtain ⟨p, q, hA0, hV, rfl, hfz, hnd⟩ := hW
  have hA : DataW.TrodAll enc Tryz.prog W 0 (fun _ => true) true Tryz.f5.params.toList args.toList ds p := hA0
  rw [Tryz.params5] at hA hval
  obtain ⟨v0, vs0, d0, ds0, p0, q0, hargs, rfl, rfl, h0, r0⟩ := trodAll_cons hA
  obtain ⟨rfl, rfl, rfl⟩ := trodAll_nil r0
  obtain rfl : args = #[v0] := by cases args; simp_all
  obtain ⟨rfl, rfl⟩ := trodVars_none hV
  have k0 := h0
  have lt0 : ∀ x ∈ p0, x.block < W.heap.size := by obtain ⟨m, hm⟩ := k0; exact DataW.trod_lt m _ _ _ hm
  obtain ⟨c0, c1, y0, y1, m, rfl, hd, hp, hy0, hy1⟩ := open_agg2 Tryz.underlying38 (by kernel_rfl) cellsNet (hval 0 38 _ rfl rfl) h0
  obtain ⟨nodes, e0, ey0, _⟩ := DataW.trod_int Tryz.underlying3 hy0
  obtain rfl : c0 = .int .i64 nodes := by simpa using e0
  have hbulk : Rows.uptoBulk y1.1 ≤ 1048576 := by
    have h1 := of_decide_eq_true hcond
    rw [hd] at h1
    simp only [List.append_nil, Rows.uptoBulkAll, Rows.uptoBulk] at h1
    omega
  have hparts : ∃ ps, PartsAt W c1 ps ∧ (∀ c, c1 = .slice none 0 c → c = 0) ∧ ps.length ≤ 100000000 ∧ ∀ i (h : i < ps.length), ps[i].v.size ≤ 100000000 := by
    rcases open_slice Tryz.underlying36 hy1 with ⟨hcs, _⟩ | ⟨a, len, cap, mm, nn, D, Pl, hcs, hb, hl, hm, hmm, hx, hel⟩
    · obtain rfl : c1 = .slice none 0 0 := by simpa using hcs
      exact ⟨[], ⟨none, 0, rfl, by simp, by unfold maxLen; omega, fun i h => by simp at h⟩, fun c e => by cases e; rfl, by simp, fun i h => by simp at h⟩
    · obtain rfl : c1 = .slice (some a) len cap := by simpa using hcs
      have hlm : len ≤ mm := by rw [hmm]; split <;> omega
      obtain ⟨b, off, spot⟩ := a
      have key : ∀ i, i < len → ∃ p : Prt, W.cell? (((⟨b, off, spot⟩ : Addr).add (i * 6)).add 0) = some (.int .i64 p.kind) ∧ W.cell? (((⟨b, off, spot⟩ : Addr).add (i * 6)).add 1) = some (.int .i64 p.a) ∧ W.cell? (((⟨b, off, spot⟩ : Addr).add (i * 6)).add 2) = some (.int .i64 p.b) ∧ W.cell? (((⟨b, off, spot⟩ : Addr).add (i * 6)).add 3) = some (.int .i64 p.c) ∧ W.cell? (((⟨b, off, spot⟩ : Addr).add (i * 6)).add 4) = some (.int .i64 p.d) ∧ W.cell? (((⟨b, off, spot⟩ : Addr).add (i * 6)).add 5) = some (.string p.v) ∧ p.v.size ≤ 100000000 := by
        intro i hi
        obtain ⟨cs', h1, h2⟩ := hel i (by omega)
        rw [cellsPart] at h1
        obtain ⟨_, hlen, hc⟩ := World.cells?_some h1
        obtain ⟨p, q0, q1, q2, q3, q4, q5, r, hr, hmem⟩ := part_cells h2
        refine ⟨p, (hc 0 (by omega)).trans q0, (hc 1 (by omega)).trans q1, (hc 2 (by omega)).trans q2, (hc 3 (by omega)).trans q3, (hc 4 (by omega)).trans q4, (hc 5 (by omega)).trans q5, ?_⟩
        have b1 := bulk_mem hmem
        have hr' : D i = .agg r := hr
        have b2 : Rows.uptoBulk (D i) ≤ Rows.uptoBulkAll ((List.range len).map D) := bulk_mem (List.mem_map.2 ⟨i, List.mem_range.2 hi, rfl⟩)
        have b3 : Rows.uptoBulkAll ((List.range len).map D) ≤ Rows.uptoBulk y1.1 := by
          rw [hx]
          simp only [Rows.uptoBulk]
          omega
        rw [hr'] at b2
        simp only [Rows.uptoBulk] at b1 b2
        have e : p.v.size = p.v.data.toList.length := Lib.size_eq _
        omega
      obtain ⟨ps, hps, hP⟩ := list_choose len key
      refine ⟨ps, ⟨some ⟨b, off, spot⟩, cap, by rw [hps], by omega, hm, fun i hi => ?_⟩, fun c e => by simp at e, ?_, fun i hi => (hP i hi).2.2.2.2.2.2⟩
      rotate_left
      · have := bulk_len ((List.range len).map D)
        have b3 : Rows.uptoBulkAll ((List.range len).map D) ≤ Rows.uptoBulk y1.1 := by
          rw [hx]
          simp only [Rows.uptoBulk]
          omega
        simp at this
        omega
      obtain ⟨q0, q1, q2, q3, q4, q5, q6⟩ := hP i hi
      have hspot : spot = none := by
        obtain ⟨z0, _⟩ := hP 0 (by omega)
        have := World.cell?_spot z0
        simpa [Addr.add] using this
      subst hspot
      have ad : ∀ j, ((⟨b, off, none⟩ : Addr).add (i * 6)).add j = ⟨b, off + i * 6 + j, none⟩ := fun j => add_add b off (i * 6) j (.inr trivial)
      rw [ad] at q0 q1 q2 q3 q4 q5
      exact ⟨b, off, rfl, World.block_lt_of_cell? W _ q0, q0, q1, q2, q3, q4, q5, by omega⟩
  obtain ⟨ps, hparts, hnil, hlen, hsizes⟩ := hparts
  obtain ⟨ml, hml⟩ := Tryz.laysM145.s1_3 W hS
  have hbase : Base W := ⟨kinds_at hL, ⟨ml, hml⟩, World.block_lt_of_cell? W _ hml⟩
  refine (netChecks_any nodes c1 ps W hbase (mark_at hL) hparts hnil hlen hsizes).mono fun e W' ⟨he, hg⟩ => ?_
  subst he
  have bel : Below W.heap.size W W' := gr_below hg
  exact ⟨_, rfl, _, _, _, [], _, [], hW', trodAll_mk1 (shut_bool Tryz.underlying4 _), (trodAll_cons_mk (Below.trod laidOutK (by kernel_rfl) (of_decide_eq_true (by kernel_rfl)) k0 bel lt0) trodAll_mk0), rfl, bel.frame _, fun h => by cases h⟩

/-- A block with other cells. -/
def layIn (cs : Array Value) : Obj → Obj
  | .cells _ t frozen => .cells cs t frozen
  | o => o

/-- A world for the witness: the table holds what its initialiser lays. -/
noncomputable def laidWorld (os : Os) : World :=
  { World.holding Tryz.prog os ⟨#[], #[], []⟩ with heap := ((((World.holding Tryz.prog os ⟨#[], #[], []⟩).heap.modify 4 (layIn #[.string ⟨#[]⟩, .string ⟨#[]⟩, .bool false, .bool false, .bool false, .string ⟨#[82]⟩, .string ⟨#[206, 169]⟩, .bool true, .bool true, .bool false, .string ⟨#[76]⟩, .string ⟨#[72]⟩, .bool true, .bool true, .bool false, .string ⟨#[67]⟩, .string ⟨#[70]⟩, .bool true, .bool true, .bool false, .string ⟨#[86]⟩, .string ⟨#[86]⟩, .bool true, .bool false, .bool false, .string ⟨#[73]⟩, .string ⟨#[65]⟩, .bool true, .bool false, .bool false, .string ⟨#[69]⟩, .string ⟨#[]⟩, .bool true, .bool false, .bool true, .string ⟨#[71]⟩, .string ⟨#[83]⟩, .bool true, .bool false, .bool true, .string ⟨#[68]⟩, .string ⟨#[]⟩, .bool false, .bool false, .bool false])).modify 2 (layIn #[.int .i64 (-9), .int .i64 0, .int .i64 0, .int .i64 0, .int .i64 0, .string ⟨#[109, 97, 114, 107]⟩])).modify 7 (layIn #[.int .u8 128, .int .u8 191, .int .u8 160, .int .u8 191, .int .u8 128, .int .u8 159, .int .u8 144, .int .u8 191, .int .u8 128, .int .u8 143, .int .u8 0, .int .u8 0, .int .u8 0, .int .u8 0, .int .u8 0, .int .u8 0, .int .u8 0, .int .u8 0, .int .u8 0, .int .u8 0, .int .u8 0, .int .u8 0, .int .u8 0, .int .u8 0, .int .u8 0, .int .u8 0, .int .u8 0, .int .u8 0, .int .u8 0, .int .u8 0, .int .u8 0, .int .u8 0])).modify 6 (layIn (Go.Pinned.utf8FirstZ.map fun z : Nat => Value.int .u8 z).toArray) }
theorem laid_met (os : Os) : laidMet Tryz.prog Rows.netChecksUptoRow.laid ((laidWorld os).forCall (fun _ _ => 0) ⟨#[], #[.agg #[.int .i64 0, .slice none 0 0]], []⟩).memory :=
  laidMet_of_run' 8 (by kernel_rfl) (by kernel_rfl)
theorem reads (os : Os) {H : Type} (enc : TypeId × Value → H) : ∃ places, DataW.whole enc Tryz.prog ((laidWorld os).forCall (fun _ _ => 0) ⟨#[], #[.agg #[.int .i64 0, .slice none 0 0]], []⟩).memory Tryz.f5.params.toList Rows.netChecksSpec.vars false #[Value.agg #[.int .i64 0, .slice none 0 0]].toList 8 = some ([.agg [.lit (.int .i64 0), .nil]], [], places) :=
  ⟨[], by kernel_rfl⟩

set_option maxRecDepth 100000 in
theorem liftedUpto (os : Os) (started : os.Started) (H : Type) (enc : TypeId × Value → H) (F : Stop.Interp) :
    ReturnsInHanded {} Tryz.checked os 5 .any ((Rows.OpenSpec.upto Rows.netChecksSpec).preRow enc Tryz.prog Tryz.f5 Rows.netChecksUptoRow.domain false Rows.netChecksUptoRow.laid) (((Rows.OpenSpec.upto Rows.netChecksSpec).at F).post enc Tryz.prog Tryz.f5 false true false false) := by
  obtain ⟨places, hx⟩ := reads os enc
  refine returnsInHanded_of_row (C := Tryz.checked) (s := Rows.OpenSpec.upto Rows.netChecksSpec) ownK started (by kernel_rfl) Tryz.func5
    (witness_row_at (enc := enc) (C := Tryz.checked) false (laidWorld os) #[.agg #[.int .i64 0, .slice none 0 0]] rfl (by kernel_rfl) (by kernel_rfl) (by kernel_rfl)
      (OpenSpec.preRow_of_cond 8 hx (by kernel_rfl) (fun k hk => by cases hk; kernel_rfl) (by kernel_rfl) (laid_met os))) ?_
  intro W base args ds gs before hval hW _ hcond _ hL hS _
  exact contract H enc W base args ds gs before hval hW (hcond _ rfl) hL hS

theorem saidUpto : Rows.NetChecksUptoSaid :=
  OpenClaim.holds_of_cond 5 Tryz.f5 rfl rfl rfl rfl rfl rfl rfl ⟨rfl, rfl, rfl, rfl, rfl⟩ rfl rfl rfl rfl rfl (by kernel_rfl) Tryz.func5 (by kernel_rfl)
    (of_decide_eq_true (by kernel_rfl)) (by unfold Func.isWrapper; first | (rw [if_pos (by decide +kernel)]; kernel_rfl) | (rw [if_neg (by decide +kernel)]; exact ⟨rfl, rfl⟩))
    (fun os started H enc _ F => by rw [OpenClaim.pre_eq_preRow]; exact liftedUpto os started H enc F)

/-- No parameter wants a stand-in; the program's own looks are off. -/
theorem plain (f : FuncId) (fn : Func) (hf : Tryz.pinned.checked.prog.funcNamed "voltaic/voltaiclaw.NetChecks" = some f) (hfn : Tryz.pinned.checked.prog.funcs[f]? = some fn) :
    false = Tryz.pinned.checked.prog.looks [] ∧ ∀ (j : Nat) t, fn.params[j]? = some t → Tryz.pinned.checked.prog.wantsStandIn t = false := by
  obtain rfl : f = 5 := Option.some.inj ((show Tryz.prog.funcNamed "voltaic/voltaiclaw.NetChecks" = some 5 by kernel_rfl).symm.trans hf) |>.symm
  obtain rfl : fn = Tryz.f5 := (Option.some.inj (Tryz.func5.symm.trans hfn)).symm
  refine ⟨by kernel_rfl, fun j t ht => ?_⟩
  rw [Tryz.params5] at ht
  obtain rfl : t = 38 := by simpa using Array.mem_of_getElem? ht
  exact (show Tryz.prog.wantsStandIn 38 = false by kernel_rfl)

/-- The second form's card. -/
theorem netChecks_holds : Rows.NetChecksUptoCardSaid :=
  Claim7.holds_tied_plain_at .later [] _ _ _ _ saidUpto (fun _ h => by cases h) (by kernel_rfl) (fun _ h => by cases h) netChecksUpto_row_tie rfl ⟨rfl, rfl⟩ (by kernel_rfl) rfl plain (by kernel_rfl)
#print axioms netChecks_holds
end Go.Proofs.YtfhamfgcjdhmdaaGreatDoor
