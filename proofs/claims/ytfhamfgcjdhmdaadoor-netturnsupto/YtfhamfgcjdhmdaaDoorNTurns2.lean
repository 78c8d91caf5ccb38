/- For every net whose bulk is at most 1048576, voltaiclaw.NetTurns returns true and leaves its argument as it was: loops and cuts have nothing in common, there are as many loops as parts, less nodes, and islands more, and each loop comes back. The condition: the statement's second form (its bound on the argument's bulk); net.kinds starts as the program's text lays it. -/
import Derived.Test.YtfhamfgcjdhmdaaDoorNTurns
namespace Go.Proofs.YtfhamfgcjdhmdaaDoor
open Go.ChangeShapes Go.WideShapes Go.ChangeAt Go.RowKit Go.Joins Go.Deep
set_option linter.unusedVariables false

theorem list_choose {α : Type} {P : Nat → α → Prop} : ∀ n : Nat, (∀ i, i < n → ∃ x, P i x) → ∃ xs : List α, xs.length = n ∧ ∀ i (h : i < xs.length), P i xs[i] := by
  intro n
  induction n with
  | zero => intro _; exact ⟨[], rfl, fun i h => by simp at h⟩
  | succ n ih =>
    intro h
    obtain ⟨xs, h1, h2⟩ := ih (fun i hi => h i (by omega))
    obtain ⟨x, hx⟩ := h n (by omega)
    refine ⟨xs ++ [x], by simp [h1], fun i hi => ?_⟩
    by_cases hlt : i < xs.length
    · rw [List.getElem_append_left hlt]
      exact h2 i hlt
    · have : i = n := by simp at hi; omega
      subst this
      rw [List.getElem_append_right (by omega)]
      simpa [h1] using hx

theorem bulk_mem {H : Type} {d : DataW H} {l : List (DataW H)} (h : d ∈ l) : Rows.uptoBulk d ≤ Rows.uptoBulkAll l := by
  induction l with
  | nil => cases h
  | cons x r ih =>
    simp only [Rows.uptoBulkAll]
    rcases List.mem_cons.1 h with rfl | h
    · omega
    · have := ih h
      omega

/-- NetTurns, whatever the net. -/
theorem netTurns_any (nodes : Int) (pv : Value) (ps : List Prt) (w : World) (hb : Base w) (hp : PartsAt w pv ps) :
    Calls Tryd.prog 3 #[.agg #[.int .i64 nodes, pv]] w fun e w' => e = .returned (.bool true) ∧ w.grownBy w' none := by
  by_cases hC : (checkN nodes ps).1 = 0
  · obtain ⟨h1, h2⟩ := good_of hC
    exact netTurns_ok nodes pv ps nodes.toNat w hb hp h1 h2
  · exact netTurns_bad nodes pv ps w hb hp hC

theorem add_add (b off i j : Nat) (h : 0 < i + j ∨ True) : ((⟨b, off, none⟩ : Addr).add i).add j = ⟨b, off + i + j, none⟩ := by
  unfold Addr.add
  by_cases hi : i = 0 <;> by_cases hj : j = 0 <;> simp [hi, hj]

theorem contract (H : Type) (enc : TypeId × Value → H) (W : World) (base : Nat) (args : Array Value) (ds gs : List (DataW H)) (before : List MemPlace)
    (hval : ∀ (j : Nat) t v, Tryd.f3.params[j]? = some t → args[j]? = some v → Value.okWide Tryd.prog W .any base t v)
    (hW : DataW.Whole enc Tryd.prog Tryd.f3.params.toList Rows.netTurnsSpec.vars false W args.toList ds gs before) (hcond : Rows.uptoSmall H (ds ++ gs) = true) (hL : laidMetH Tryd.prog Rows.netTurnsUptoRow.laid W) (hS : W.ShapedOpen Tryd.prog) :
    Calls Tryd.prog 3 args W fun e W' => ∃ v, e = .returned v ∧ Rows.netTurnsSpec.post enc Tryd.prog Tryd.f3 false true false false W args v W' := by
  have hW' := hW
  obtain ⟨p, q, hA0, hV, rfl, hfz, hnd⟩ := hW
  have hA : DataW.TrodAll enc Tryd.prog W 0 (fun _ => true) true Tryd.f3.params.toList args.toList ds p := hA0
  rw [Tryd.params3] at hA hval
  obtain ⟨v0, vs0, d0, ds0, p0, q0, hargs, rfl, rfl, h0, r0⟩ := trodAll_cons hA
  obtain ⟨rfl, rfl, rfl⟩ := trodAll_nil r0
  obtain rfl : args = #[v0] := by cases args; simp_all
  obtain ⟨rfl, rfl⟩ := trodVars_none hV
  have k0 := h0
  have lt0 : ∀ x ∈ p0, x.block < W.heap.size := by obtain ⟨m, hm⟩ := k0; exact DataW.trod_lt m _ _ _ hm
  obtain ⟨c0, c1, y0, y1, m, rfl, hd, hp, hy0, hy1⟩ := open_agg2 Tryd.underlying24 (by kernel_rfl) cellsNet (hval 0 24 _ rfl rfl) h0
  obtain ⟨nodes, e0, ey0, _⟩ := DataW.trod_int Tryd.underlying3 hy0
  obtain rfl : c0 = .int .i64 nodes := by simpa using e0
  have hbulk : Rows.uptoBulk y1.1 ≤ 1048576 := by
    have h1 := of_decide_eq_true hcond
    rw [hd] at h1
    simp only [List.append_nil, Rows.uptoBulkAll, Rows.uptoBulk] at h1
    omega
  have hparts : ∃ ps, PartsAt W c1 ps := by
    rcases open_slice Tryd.underlying22 hy1 with ⟨hcs, _⟩ | ⟨a, len, cap, mm, nn, D, Pl, hcs, hb, hl, hm, hmm, hx, hel⟩
    · obtain rfl : c1 = .slice none 0 0 := by simpa using hcs
      exact ⟨[], none, 0, rfl, by simp, by unfold maxLen; omega, fun i h => by simp at h⟩
    · obtain rfl : c1 = .slice (some a) len cap := by simpa using hcs
      have hlm : len ≤ mm := by rw [hmm]; split <;> omega
      obtain ⟨b, off, spot⟩ := a
      have key : ∀ i, i < len → ∃ p : Prt, W.cell? (((⟨b, off, spot⟩ : Addr).add (i * 6)).add 0) = some (.int .i64 p.kind) ∧ W.cell? (((⟨b, off, spot⟩ : Addr).add (i * 6)).add 1) = some (.int .i64 p.a) ∧ W.cell? (((⟨b, off, spot⟩ : Addr).add (i * 6)).add 2) = some (.int .i64 p.b) ∧ W.cell? (((⟨b, off, spot⟩ : Addr).add (i * 6)).add 3) = some (.int .i64 p.c) ∧ W.cell? (((⟨b, off, spot⟩ : Addr).add (i * 6)).add 4) = some (.int .i64 p.d) ∧ W.cell? (((⟨b, off, spot⟩ : Addr).add (i * 6)).add 5) = some (.string p.v) ∧ p.v.size ≤ 600000000 := by
        intro i hi
        obtain ⟨cs', h1, h2⟩ := hel i (by omega)
        rw [cellsPart] at h1
        obtain ⟨_, hlen, hc⟩ := World.cells?_some h1
        obtain ⟨p, q0, q1, q2, q3, q4, q5, r, hr, hmem⟩ := part_cells h2
        refine ⟨p, (hc 0 (by omega)).trans q0, (hc 1 (by omega)).trans q1, (hc 2 (by omega)).trans q2, (hc 3 (by omega)).trans q3, (hc 4 (by omega)).trans q4, (hc 5 (by omega)).trans q5, ?_⟩
        have b1 := bulk_mem hmem
        have hr' : D i = .agg r := hr
        have b2 : Rows.uptoBulk (D i) ≤ Rows.uptoBulkAll ((List.range len).map D) := bulk_mem (List.mem_map.2 ⟨i, List.mem_range.2 hi, rfl⟩)
        have b3 : Rows.uptoBulkAll ((List.range len).map D) ≤ Rows.uptoBulk y1.1 := by
          rw [hx]
          simp only [Rows.uptoBulk]
          omega
        rw [hr'] at b2
        simp only [Rows.uptoBulk] at b1 b2
        have e : p.v.size = p.v.data.toList.length := Lib.size_eq _
        omega
      obtain ⟨ps, hps, hP⟩ := list_choose len key
      refine ⟨ps, some ⟨b, off, spot⟩, cap, by rw [hps], by omega, hm, fun i hi => ?_⟩
      obtain ⟨q0, q1, q2, q3, q4, q5, q6⟩ := hP i hi
      have hspot : spot = none := by
        obtain ⟨z0, _⟩ := hP 0 (by omega)
        have := World.cell?_spot z0
        simpa [Addr.add] using this
      subst hspot
      have ad : ∀ j, ((⟨b, off, none⟩ : Addr).add (i * 6)).add j = ⟨b, off + i * 6 + j, none⟩ := fun j => add_add b off (i * 6) j (.inr trivial)
      rw [ad] at q0 q1 q2 q3 q4 q5
      exact ⟨b, off, rfl, World.block_lt_of_cell? W _ q0, q0, q1, q2, q3, q4, q5, q6⟩
  obtain ⟨ps, hparts⟩ := hparts
  obtain ⟨ml, hml⟩ := Tryd.laysM145.s1_3 W hS
  have hbase : Base W := ⟨kinds_at hL, ⟨ml, hml⟩, World.block_lt_of_cell? W _ hml⟩
  refine (netTurns_any nodes c1 ps W hbase hparts).mono fun e W' ⟨he, hg⟩ => ?_
  subst he
  have bel : Below W.heap.size W W' := gr_below hg
  exact ⟨_, rfl, _, _, _, [], _, [], hW', trodAll_mk1 (shut_bool Tryd.underlying4 _), (trodAll_cons_mk (Below.trod laidOutK (by kernel_rfl) (of_decide_eq_true (by kernel_rfl)) k0 bel lt0) trodAll_mk0), rfl, bel.frame _, fun h => by cases h⟩

/-- A world for the witness: the table holds what its initialiser lays. -/
noncomputable def laidWorld (os : Os) : World :=
  { World.holding Tryd.prog os ⟨#[], #[], []⟩ with heap := (World.holding Tryd.prog os ⟨#[], #[], []⟩).heap.modify 0 fun
      | .cells _ t frozen => .cells #[.string ⟨#[]⟩, .string ⟨#[]⟩, .bool false, .bool false, .bool false, .string ⟨#[82]⟩, .string ⟨#[206, 169]⟩, .bool true, .bool true, .bool false, .string ⟨#[76]⟩, .string ⟨#[72]⟩, .bool true, .bool true, .bool false, .string ⟨#[67]⟩, .string ⟨#[70]⟩, .bool true, .bool true, .bool false, .string ⟨#[86]⟩, .string ⟨#[86]⟩, .bool true, .bool false, .bool false, .string ⟨#[73]⟩, .string ⟨#[65]⟩, .bool true, .bool false, .bool false, .string ⟨#[69]⟩, .string ⟨#[]⟩, .bool true, .bool false, .bool true, .string ⟨#[71]⟩, .string ⟨#[83]⟩, .bool true, .bool false, .bool true, .string ⟨#[68]⟩, .string ⟨#[]⟩, .bool false, .bool false, .bool false] t frozen
      | o => o }
theorem laid_met (os : Os) : laidMet Tryd.prog Rows.netTurnsUptoRow.laid ((laidWorld os).forCall (fun _ _ => 0) ⟨#[], #[.agg #[.int .i64 0, .slice none 0 0]], []⟩).memory :=
  laidMet_of_run' 8 (by kernel_rfl) (by kernel_rfl)
theorem reads (os : Os) {H : Type} (enc : TypeId × Value → H) : ∃ places, DataW.whole enc Tryd.prog ((laidWorld os).forCall (fun _ _ => 0) ⟨#[], #[.agg #[.int .i64 0, .slice none 0 0]], []⟩).memory Tryd.f3.params.toList Rows.netTurnsSpec.vars false #[Value.agg #[.int .i64 0, .slice none 0 0]].toList 8 = some ([.agg [.lit (.int .i64 0), .nil]], [], places) :=
  ⟨[], by kernel_rfl⟩

set_option maxRecDepth 100000 in
theorem liftedUpto (os : Os) (started : os.Started) (H : Type) (enc : TypeId × Value → H) (F : Stop.Interp) :
    ReturnsInHanded {} Tryd.checked os 3 .any ((Rows.OpenSpec.upto Rows.netTurnsSpec).preRow enc Tryd.prog Tryd.f3 Rows.netTurnsUptoRow.domain false Rows.netTurnsUptoRow.laid) (((Rows.OpenSpec.upto Rows.netTurnsSpec).at F).post enc Tryd.prog Tryd.f3 false true false false) := by
  obtain ⟨places, hx⟩ := reads os enc
  refine returnsInHanded_of_row (C := Tryd.checked) (s := Rows.OpenSpec.upto Rows.netTurnsSpec) ownK started (by kernel_rfl) Tryd.func3
    (witness_row_at (enc := enc) (C := Tryd.checked) false (laidWorld os) #[.agg #[.int .i64 0, .slice none 0 0]] rfl (by kernel_rfl) (by kernel_rfl) (by kernel_rfl)
      (OpenSpec.preRow_of_cond 8 hx (by kernel_rfl) (fun k hk => by cases hk; kernel_rfl) (by kernel_rfl) (laid_met os))) ?_
  intro W base args ds gs before hval hW _ hcond _ hL hS _
  exact contract H enc W base args ds gs before hval hW (hcond _ rfl) hL hS

theorem saidUpto : Rows.NetTurnsUptoSaid :=
  OpenClaim.holds_of_cond 3 Tryd.f3 rfl rfl rfl rfl rfl rfl rfl ⟨rfl, rfl, rfl, rfl, rfl⟩ rfl rfl rfl rfl rfl (by kernel_rfl) Tryd.func3 (by kernel_rfl)
    (of_decide_eq_true (by kernel_rfl)) (by unfold Func.isWrapper; first | (rw [if_pos (by decide +kernel)]; kernel_rfl) | (rw [if_neg (by decide +kernel)]; exact ⟨rfl, rfl⟩))
    (fun os started H enc _ F => by rw [OpenClaim.pre_eq_preRow]; exact liftedUpto os started H enc F)

/-- No parameter wants a stand-in; the program's own looks are off. -/
theorem plain (f : FuncId) (fn : Func) (hf : Tryd.pinned.checked.prog.funcNamed "voltaic/voltaiclaw.NetTurns" = some f) (hfn : Tryd.pinned.checked.prog.funcs[f]? = some fn) :
    false = Tryd.pinned.checked.prog.looks [] ∧ ∀ (j : Nat) t, fn.params[j]? = some t → Tryd.pinned.checked.prog.wantsStandIn t = false := by
  obtain rfl : f = 3 := Option.some.inj ((show Tryd.prog.funcNamed "voltaic/voltaiclaw.NetTurns" = some 3 by kernel_rfl).symm.trans hf) |>.symm
  obtain rfl : fn = Tryd.f3 := (Option.some.inj (Tryd.func3.symm.trans hfn)).symm
  refine ⟨by kernel_rfl, fun j t ht => ?_⟩
  rw [Tryd.params3] at ht
  obtain rfl : t = 24 := by simpa using Array.mem_of_getElem? ht
  exact (show Tryd.prog.wantsStandIn 24 = false by kernel_rfl)

/-- The second form's card. -/
theorem netTurns_holds : Rows.NetTurnsUptoCardSaid :=
  Claim7.holds_tied_plain_at .later [] _ _ _ _ saidUpto (fun _ h => by cases h) (by kernel_rfl) (fun _ h => by cases h) netTurnsUpto_row_tie rfl ⟨rfl, rfl⟩ (by kernel_rfl) rfl plain (by kernel_rfl)
#print axioms netTurns_holds
end Go.Proofs.YtfhamfgcjdhmdaaDoor
