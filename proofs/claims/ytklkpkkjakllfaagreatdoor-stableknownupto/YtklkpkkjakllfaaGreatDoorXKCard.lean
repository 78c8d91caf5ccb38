/- For every list of real roots, every list of pairs of numbers and every leading number, all told as texts, voltaiclaw.StableKnown returns true and leaves its arguments as they were: of a polynomial that is made of its roots Count tells how many lie to the left, in the middle and to the right. The condition: the statement's second form (arguments whose bulk is at most 1048576); the package-level tables start as the program's text lays them. -/
import Derived.Test.YtklkpkkjakllfaaGreatDoorXKLaw
import Derived.Test.YtklkpkkjakllfaaGreatDoorCards
import Derived.Test.YtklkpkkjakllfaaGreatDoorTie
import Derived.ProofKit
import Derived.OpenShut
import Derived.ShutString
import Derived.ChangeOld
import Derived.Below
import Derived.Deep.DeepHandedRow
import Derived.Lib.LaidTab
import Derived.Lib.LaidU8
import Derived.Lib.SmallJoins
import Derived.Deep.Slices
set_option linter.unusedVariables false
set_option linter.unusedSimpArgs false
namespace Go.Proofs.YtklkpkkjakllfaaGreatDoor
open Go.ChangeShapes Go.WideShapes Go.ChangeAt Go.RowKit Go.Joins Go.Deep
theorem ownK : ownKnob Tryz.prog.godebug = none := by kernel_rfl
theorem laidOutK : laidOutB Tryz.prog = true := by kernel_rfl
theorem cellsQ : Tryz.prog.cellsOf 24 = 1 := by kernel_rfl
theorem gPow : Tryz.prog.globalNamed "internal/strconv.uint64pow10" = some 3 := by kernel_rfl
theorem gPowType : (Tryz.prog.globals[3]?).map (·.type) = some 195 := by kernel_rfl
theorem cellsU64 : Tryz.prog.cellsOf 88 = 1 := by kernel_rfl
theorem cellsPow : Tryz.prog.cellsOf 195 = 20 := by kernel_rfl
theorem tab10_of {W : World} (h : Lib.VarReads Tryz.prog W "internal/strconv.uint64pow10" Rows.laid_internal_strconv_uint64pow10) : Tab10 W := by
  obtain ⟨g, t, cs, fuel, p, hg, hty, hvar, hd⟩ := h
  obtain rfl := Option.some.inj (gPow.symm.trans hg)
  obtain rfl := Option.some.inj (gPowType.symm.trans hty)
  have e : (Rows.laid_internal_strconv_uint64pow10 : DataW Unit) = Lib.tabData .u64 Lib.pow10Tab := by kernel_rfl
  rw [e] at hd
  have hcs := Lib.cells_of_tab Tryz.underlying195 Tryz.underlying88 cellsU64 cellsPow hd
  unfold Tab10 Lib.TabIs
  rw [hvar, ← hcs]
theorem list_choose {α : Type} {P : Nat → α → Prop} : ∀ n : Nat, (∀ i, i < n → ∃ x, P i x) → ∃ xs : List α, xs.length = n ∧ ∀ i (h : i < xs.length), P i xs[i] := by
  intro n
  induction n with
  | zero => intro _; exact ⟨[], rfl, fun i h => by simp at h⟩
  | succ n ih =>
    intro h
    obtain ⟨xs, h1, h2⟩ := ih (fun i hi => h i (by omega))
    obtain ⟨x, hx⟩ := h n (by omega)
    refine ⟨xs ++ [x], by simp [h1], fun i hi => ?_⟩
    by_cases hlt : i < xs.length
    · rw [List.getElem_append_left hlt]
      exact h2 i hlt
    · have : i = n := by simp at hi; omega
      subst this
      rw [List.getElem_append_right (by omega)]
      simpa [h1] using hx
theorem sum_bulk {H α : Type} (f : α → Nat) : ∀ (ls : List α) (ds : List (DataW H)), ls.length = ds.length → (∀ i (h : i < ls.length) (h2 : i < ds.length), f ls[i] ≤ Rows.uptoBulk ds[i]) → (ls.map f).sum ≤ Rows.uptoBulkAll ds
  | [], [], _, _ => by simp
  | p :: ps, d :: ds, h, hk => by
    have h1 := sum_bulk f ps ds (by simpa using h) (fun i hi h2 => hk (i + 1) (by simpa using hi) (by simpa using h2))
    have h2 : f p ≤ Rows.uptoBulk d := hk 0 (by simp) (by simp)
    simp only [List.map_cons, List.sum_cons, Rows.uptoBulkAll]
    omega
  | [], d :: ds, h, _ => by simp at h
  | p :: ps, [], h, _ => by simp at h
theorem sum_each {α : Type} (f : α → Nat) : ∀ (ls : List α) i (h : i < ls.length), f ls[i] ≤ (ls.map f).sum
  | [], i, h => by simp at h
  | p :: ps, 0, h => by simp
  | p :: ps, i + 1, h => by
    have h1 := sum_each f ps i (by simpa using h)
    simp only [List.map_cons, List.sum_cons, List.getElem_cons_succ]
    omega
theorem sum_len {α : Type} (f : α → Nat) (hf : ∀ x, 1 ≤ f x) : ∀ ls : List α, ls.length ≤ (ls.map f).sum
  | [] => by simp
  | p :: ps => by
    have h1 := sum_len f hf ps
    have h2 := hf p
    simp only [List.map_cons, List.sum_cons, List.length_cons]
    omega
theorem len_two {α : Type} {l : List α} (h : l.length = 2) : ∃ a b, l = [a, b] := by
  match l, h with
  | [a, b], _ => exact ⟨a, b, rfl⟩
theorem trod_pair {H : Type} {enc : TypeId × Value → H} {P : Program} {w : World} {base fuel : Nat} {spare : Nat → Bool} {held : Bool} {t e : TypeId} {cs : List Value} {x : DataW H × List MemPlace} (ht : P.underlying t = some (.array 2 e)) (hc : P.cellsOf e = 1) (he : P.underlying e = some .string) (h : DataW.trod enc P w base spare held fuel t cs = some x) (hlen : cs.length = 2) :
    ∃ s0 s1 : ByteArray, cs = [.string s0, .string s1] ∧ x.1 = .agg [.lit (.string s0.data.toList), .lit (.string s1.data.toList)] := by
  obtain ⟨xs, mx, _, ex, _, hxl, hxe⟩ := DataW.trod_array ht h
  obtain ⟨x0, x1, rfl⟩ := len_two hxl
  obtain ⟨c0, c1, rfl⟩ := len_two hlen
  have g0 := hxe 0 (by decide)
  have g1 := hxe 1 (by decide)
  rw [hc] at g0 g1
  obtain ⟨s0, a0, b0, _⟩ := DataW.trod_string he g0
  obtain ⟨s1, a1, b1, _⟩ := DataW.trod_string he g1
  have a0' : c0 = .string s0 := by simpa using a0
  have a1' : c1 = .string s1 := by simpa using a1
  refine ⟨s0, s1, by rw [a0', a1'], ?_⟩
  rw [ex, b0, b1]
  rfl
theorem cellsQ2 : Tryz.prog.cellsOf 36 = 2 := by kernel_rfl
theorem texts_read {H : Type} {enc : TypeId × Value → H} {W : World} {m : Nat} {c1 : Value} {y1 : DataW H × List MemPlace} (hy1 : DataW.trod enc Tryz.prog W 0 (fun _ => true) true m 22 [c1] = some y1) (hbulk : Rows.uptoBulk y1.1 ≤ 1048576) :
    ∃ ls, RowG sv W c1 ls ∧ (ls.map fun s => s.size + 1).sum ≤ 1048576 := by
  rcases open_slice Tryz.underlying22 hy1 with ⟨hcs, _⟩ | ⟨a, len, cap, mm, nn, D, Pl, hcs, hb, hl, hm, hmm, hx, hel⟩
  · obtain rfl : c1 = .slice none 0 0 := by simpa using hcs
    exact ⟨[], ⟨none, 0, rfl, by simp, by unfold maxLen; omega, fun i h => by simp at h⟩, by simp⟩
  · obtain rfl : c1 = .slice (some a) len cap := by simpa using hcs
    have hlm : len ≤ mm := by rw [hmm]; split <;> omega
    obtain ⟨b, off, spot⟩ := a
    have key : ∀ i, i < len → ∃ s : ByteArray, W.cell? ((⟨b, off, spot⟩ : Addr).add (i * 1)) = some (.string s) ∧ s.size + 1 ≤ Rows.uptoBulk (D i) := by
      intro i hi
      obtain ⟨cs', h1, h2⟩ := hel i (by omega)
      rw [cellsQ] at h1
      obtain ⟨_, hlen, hc⟩ := World.cells?_some h1
      obtain ⟨s, e5, e6, _⟩ := DataW.trod_string Tryz.underlying24 h2
      have hc0 := hc 0 (by omega)
      have e7 : cs'[0]? = some (.string s) := by
        have := congrArg (·[0]?) e5
        simpa using this
      refine ⟨s, ?_, ?_⟩
      · have e8 : ((⟨b, off, spot⟩ : Addr).add (i * 1)).add 0 = (⟨b, off, spot⟩ : Addr).add (i * 1) := by unfold Addr.add; simp
        rw [← e8]
        exact hc0.trans e7
      · have e9 : D i = .lit (.string s.data.toList) := congrArg Prod.fst e6
        rw [e9]
        have e : s.size = s.data.toList.length := Lib.size_eq _
        simp only [Rows.uptoBulk]
        omega
    obtain ⟨ls, hls, hP⟩ := list_choose len key
    have hsum : (ls.map fun s => s.size + 1).sum ≤ 1048576 := by
      have b3 : Rows.uptoBulkAll ((List.range len).map D) ≤ Rows.uptoBulk y1.1 := by
        rw [hx]
        simp only [Rows.uptoBulk]
        omega
      have b4 := sum_bulk (fun s : ByteArray => s.size + 1) ls ((List.range len).map D) (by simp [hls]) (fun i hi h2 => by
        have := (hP i hi).2
        simpa using this)
      omega
    refine ⟨ls, ⟨some ⟨b, off, spot⟩, cap, by rw [hls], by omega, hm, fun i hi => ?_⟩, hsum⟩
    have hspot : spot = none := by
      obtain ⟨z0, _⟩ := hP 0 (by omega)
      have := World.cell?_spot z0
      simpa [Addr.add] using this
    subst hspot
    have q0 := (hP i hi).1
    have ad : (⟨b, off, none⟩ : Addr).add (i * 1) = ⟨b, off + i, none⟩ := by
      unfold Addr.add
      by_cases h : i = 0 <;> simp [h]
    rw [ad] at q0
    exact ⟨b, off, rfl, World.block_lt_of_cell? W _ q0, q0⟩
theorem pairs_read {H : Type} {enc : TypeId × Value → H} {W : World} {m : Nat} {c1 : Value} {y1 : DataW H × List MemPlace} (hy1 : DataW.trod enc Tryz.prog W 0 (fun _ => true) true m 23 [c1] = some y1) (hbulk : Rows.uptoBulk y1.1 ≤ 1048576) :
    ∃ ps, RowP W c1 ps ∧ (ps.map fun p => p.1.size + p.2.size + 1).sum ≤ 1048576 := by
  rcases open_slice Tryz.underlying23 hy1 with ⟨hcs, _⟩ | ⟨a, len, cap, mm, nn, D, Pl, hcs, hb, hl, hm, hmm, hx, hel⟩
  · obtain rfl : c1 = .slice none 0 0 := by simpa using hcs
    exact ⟨[], ⟨none, 0, rfl, by simp, by unfold maxLen; omega, fun i h => by simp at h⟩, by simp⟩
  · obtain rfl : c1 = .slice (some a) len cap := by simpa using hcs
    have hlm : len ≤ mm := by rw [hmm]; split <;> omega
    obtain ⟨b, off, spot⟩ := a
    have key : ∀ i, i < len → ∃ p : ByteArray × ByteArray, (W.cell? ((⟨b, off, spot⟩ : Addr).add (i * 2)) = some (.string p.1) ∧ W.cell? (((⟨b, off, spot⟩ : Addr).add (i * 2)).add 1) = some (.string p.2)) ∧ p.1.size + p.2.size + 1 ≤ Rows.uptoBulk (D i) := by
      intro i hi
      obtain ⟨cs', h1, h2⟩ := hel i (by omega)
      rw [cellsQ2] at h1
      obtain ⟨_, hlen, hc⟩ := World.cells?_some h1
      obtain ⟨s0, s1, rfl, e9⟩ := trod_pair Tryz.underlying36 cellsQ Tryz.underlying24 h2 hlen
      have hc0 := hc 0 (by decide)
      have hc1 := hc 1 (by decide)
      refine ⟨(s0, s1), ⟨?_, ?_⟩, ?_⟩
      · have e8 : ((⟨b, off, spot⟩ : Addr).add (i * 2)).add 0 = (⟨b, off, spot⟩ : Addr).add (i * 2) := by unfold Addr.add; simp
        rw [← e8]
        exact hc0
      · exact hc1
      · have e9' : D i = .agg [.lit (.string s0.data.toList), .lit (.string s1.data.toList)] := e9
        rw [e9']
        have e : s0.size = s0.data.toList.length := Lib.size_eq _
        have e' : s1.size = s1.data.toList.length := Lib.size_eq _
        simp only [Rows.uptoBulk, Rows.uptoBulkAll]
        omega
    obtain ⟨ls, hls, hP⟩ := list_choose len key
    have hsum : (ls.map fun p => p.1.size + p.2.size + 1).sum ≤ 1048576 := by
      have b3 : Rows.uptoBulkAll ((List.range len).map D) ≤ Rows.uptoBulk y1.1 := by
        rw [hx]
        simp only [Rows.uptoBulk]
        omega
      have b4 := sum_bulk (fun p : ByteArray × ByteArray => p.1.size + p.2.size + 1) ls ((List.range len).map D) (by simp [hls]) (fun i hi h2 => by
        have := (hP i hi).2
        simpa using this)
      omega
    refine ⟨ls, ⟨some ⟨b, off, spot⟩, cap, by rw [hls], by omega, hm, fun i hi => ?_⟩, hsum⟩
    have hspot : spot = none := by
      obtain ⟨⟨z0, _⟩, _⟩ := hP 0 (by omega)
      have := World.cell?_spot z0
      simpa [Addr.add] using this
    subst hspot
    obtain ⟨q0, q1⟩ := (hP i hi).1
    have ad : (⟨b, off, none⟩ : Addr).add (i * 2) = ⟨b, off + i * 2, none⟩ := by
      unfold Addr.add
      by_cases h : i * 2 = 0 <;> simp [h]
    rw [ad] at q0 q1
    exact ⟨b, off, rfl, q0, q1⟩
theorem reads_b {W : World} (h : laidMetH Tryz.prog Rows.stableKnownUptoRow.laid W) {n : String} {d : DataW Unit} (hm : (n, d) ∈ Rows.stableKnownUptoRow.laid) : Lib.VarReads Tryz.prog W n d := by
  rw [MakeChecks.laidMetH_plain _ _ _ (by kernel_rfl)] at h
  exact Lib.laidMet.reads h hm
theorem in_list {n : String} {d : DataW Unit} (i : Nat) (h : Rows.stableKnownUptoRow.laid[i]? = some (n, d)) : (n, d) ∈ Rows.stableKnownUptoRow.laid := List.mem_of_getElem? h
set_option maxRecDepth 100000 in
theorem contract (H : Type) (enc : TypeId × Value → H) (W : World) (base : Nat) (args : Array Value) (ds gs : List (DataW H)) (before : List MemPlace)
    (hval : ∀ (j : Nat) t v, Tryz.f3.params[j]? = some t → args[j]? = some v → Value.okWide Tryz.prog W .any base t v)
    (hW : DataW.Whole enc Tryz.prog Tryz.f3.params.toList Rows.stableKnownSpec.vars false W args.toList ds gs before) (hcond : Rows.uptoSmall H (ds ++ gs) = true) (hL : laidMetH Tryz.prog Rows.stableKnownUptoRow.laid W) (hS : W.ShapedOpen Tryz.prog) :
    Calls Tryz.prog 3 args W fun e W' => ∃ v, e = .returned v ∧ Rows.stableKnownSpec.post enc Tryz.prog Tryz.f3 false true false false W args v W' := by
  have hW' := hW
  obtain ⟨p, q, hA0, hV, rfl, hfz, hnd⟩ := hW
  have hA : DataW.TrodAll enc Tryz.prog W 0 (fun _ => true) true Tryz.f3.params.toList args.toList ds p := hA0
  rw [Tryz.params3] at hA hval
  obtain ⟨v0, vs0, d0, ds0, p0, q0, hargs0, rfl, rfl, h0, r0⟩ := trodAll_cons hA
  obtain ⟨v1, vs1, d1, ds1, p1, q1, hargs1, rfl, rfl, h1, r1⟩ := trodAll_cons r0
  obtain ⟨v2, vs2, d2, ds2, p2, q2, hargs2, rfl, rfl, h2, r2⟩ := trodAll_cons r1
  obtain ⟨rfl, rfl, rfl⟩ := trodAll_nil r2
  obtain rfl : args = #[v0, v1, v2] := by cases args; simp_all
  obtain ⟨rfl, rfl⟩ := trodVars_none hV
  have k0 := h0
  have lt0 : ∀ x ∈ p0, x.block < W.heap.size := by obtain ⟨m, hm⟩ := k0; exact DataW.trod_lt m _ _ _ hm
  have k1 := h1
  have lt1 : ∀ x ∈ p1, x.block < W.heap.size := by obtain ⟨m, hm⟩ := k1; exact DataW.trod_lt m _ _ _ hm
  have k2 := h2
  have lt2 : ∀ x ∈ p2, x.block < W.heap.size := by obtain ⟨m, hm⟩ := k2; exact DataW.trod_lt m _ _ _ hm
  obtain ⟨t, rfl, rfl, rfl, _⟩ := ChangeMaps.open_string Tryz.underlying24 (hval 2 24 _ rfl rfl) h2
  have hbulk := of_decide_eq_true hcond
  simp only [List.append_nil, Rows.uptoBulkAll, Rows.uptoBulk] at hbulk
  have et : t.size = t.data.toList.length := Lib.size_eq _
  obtain ⟨a0, len0, cap0, rfl⟩ := okWide_slice Tryz.underlying22 (hval 0 22 _ rfl rfl)
  obtain ⟨a1, len1, cap1, rfl⟩ := okWide_slice Tryz.underlying23 (hval 1 23 _ rfl rfl)
  obtain ⟨m0, hy0⟩ := h0
  obtain ⟨m1, hy1⟩ := h1
  obtain ⟨ls, hrow, hsum⟩ := texts_read (y1 := (d0, p0)) hy0 (by show Rows.uptoBulk d0 ≤ 1048576; omega)
  obtain ⟨ps, hrowp, hsump⟩ := pairs_read (y1 := (d1, p1)) hy1 (by show Rows.uptoBulk d1 ≤ 1048576; omega)
  obtain ⟨ml, hml⟩ := Tryz.laysM145.s1_3 W hS
  have n0 := sum_len (fun s : ByteArray => s.size + 1) (fun x => by omega) ls
  have n1 := sum_len (fun p : ByteArray × ByteArray => p.1.size + p.2.size + 1) (fun x => by omega) ps
  refine (known_any _ _ ls ps t W hrow hrowp (fun i h => by
      have := sum_each (fun s : ByteArray => s.size + 1) ls i h
      omega) (fun i h => by
      have := sum_each (fun p : ByteArray × ByteArray => p.1.size + p.2.size + 1) ps i h
      omega) (by omega) (by omega) (by omega) ⟨ml, hml⟩ (tab10_of (reads_b hL (in_list 2 rfl)))).mono fun e W' ⟨he, hg⟩ => ?_
  subst he
  have bel : Below W.heap.size W W' := gr_below hg
  exact ⟨_, rfl, _, _, _, [], _, [], hW', trodAll_mk1 (shut_bool Tryz.underlying4 _), (trodAll_cons_mk (Below.trod laidOutK (by kernel_rfl) (of_decide_eq_true (by kernel_rfl)) k0 bel lt0) (trodAll_cons_mk (Below.trod laidOutK (by kernel_rfl) (of_decide_eq_true (by kernel_rfl)) k1 bel lt1) (trodAll_cons_mk (Below.trod laidOutK (by kernel_rfl) (of_decide_eq_true (by kernel_rfl)) k2 bel lt2) trodAll_mk0))), rfl, bel.frame _, fun h => by cases h⟩
def layIn (cs : Array Value) : Obj → Obj
  | .cells _ t frozen => .cells cs t frozen
  | o => o
noncomputable def laidWorld (os : Os) : World :=
  { World.holding Tryz.prog os ⟨#[], #[], []⟩ with heap := ((((((World.holding Tryz.prog os ⟨#[], #[], []⟩).heap.modify 4 (layIn #[.int .u8 0, .int .u8 1, .int .u8 28, .int .u8 2, .int .u8 29, .int .u8 14, .int .u8 24, .int .u8 3, .int .u8 30, .int .u8 22, .int .u8 20, .int .u8 15, .int .u8 25, .int .u8 17, .int .u8 4, .int .u8 8, .int .u8 31, .int .u8 27, .int .u8 13, .int .u8 23, .int .u8 21, .int .u8 19, .int .u8 16, .int .u8 7, .int .u8 26, .int .u8 12, .int .u8 18, .int .u8 6, .int .u8 11, .int .u8 5, .int .u8 10, .int .u8 9])).modify 5 (layIn #[.int .u8 0, .int .u8 1, .int .u8 56, .int .u8 2, .int .u8 57, .int .u8 49, .int .u8 28, .int .u8 3, .int .u8 61, .int .u8 58, .int .u8 42, .int .u8 50, .int .u8 38, .int .u8 29, .int .u8 17, .int .u8 4, .int .u8 62, .int .u8 47, .int .u8 59, .int .u8 36, .int .u8 45, .int .u8 43, .int .u8 51, .int .u8 22, .int .u8 53, .int .u8 39, .int .u8 33, .int .u8 30, .int .u8 24, .int .u8 18, .int .u8 12, .int .u8 5, .int .u8 63, .int .u8 55, .int .u8 48, .int .u8 27, .int .u8 60, .int .u8 41, .int .u8 37, .int .u8 16, .int .u8 46, .int .u8 35, .int .u8 44, .int .u8 21, .int .u8 52, .int .u8 32, .int .u8 23, .int .u8 11, .int .u8 54, .int .u8 26, .int .u8 40, .int .u8 15, .int .u8 34, .int .u8 20, .int .u8 31, .int .u8 10, .int .u8 25, .int .u8 14, .int .u8 19, .int .u8 9, .int .u8 13, .int .u8 8, .int .u8 7, .int .u8 6])).modify 3 (layIn #[.int .u64 1, .int .u64 10, .int .u64 100, .int .u64 1000, .int .u64 10000, .int .u64 100000, .int .u64 1000000, .int .u64 10000000, .int .u64 100000000, .int .u64 1000000000, .int .u64 10000000000, .int .u64 100000000000, .int .u64 1000000000000, .int .u64 10000000000000, .int .u64 100000000000000, .int .u64 1000000000000000, .int .u64 10000000000000000, .int .u64 100000000000000000, .int .u64 1000000000000000000, .int .u64 10000000000000000000])).modify 2 (layIn #[.int .u8 128, .int .u8 191, .int .u8 160, .int .u8 191, .int .u8 128, .int .u8 159, .int .u8 144, .int .u8 191, .int .u8 128, .int .u8 143, .int .u8 0, .int .u8 0, .int .u8 0, .int .u8 0, .int .u8 0, .int .u8 0, .int .u8 0, .int .u8 0, .int .u8 0, .int .u8 0, .int .u8 0, .int .u8 0, .int .u8 0, .int .u8 0, .int .u8 0, .int .u8 0, .int .u8 0, .int .u8 0, .int .u8 0, .int .u8 0, .int .u8 0, .int .u8 0])).modify 1 (layIn (Go.Pinned.utf8FirstZ.map fun z : Nat => Value.int .u8 z).toArray)) }
set_option maxRecDepth 100000 in
theorem laid_met (os : Os) : laidMetH Tryz.prog Rows.stableKnownUptoRow.laid ((laidWorld os).forCall (fun _ _ => 0) ⟨#[], #[.slice none 0 0, .slice none 0 0, .string ⟨#[]⟩], []⟩).memory := by
  rw [MakeChecks.laidMetH_plain _ _ _ (by kernel_rfl)]
  exact laidMet_of_run' 8 (by kernel_rfl) (by kernel_rfl)
theorem reads_arg (os : Os) {H : Type} (enc : TypeId × Value → H) : ∃ places, DataW.whole enc Tryz.prog ((laidWorld os).forCall (fun _ _ => 0) ⟨#[], #[.slice none 0 0, .slice none 0 0, .string ⟨#[]⟩], []⟩).memory Tryz.f3.params.toList Rows.stableKnownSpec.vars false (#[.slice none 0 0, .slice none 0 0, .string ⟨#[]⟩] : Array Value).toList 8 = some ([.nil, .nil, .lit (.string [])], [], places) :=
  ⟨[], by kernel_rfl⟩
set_option maxRecDepth 100000 in
theorem lifted (os : Os) (started : os.Started) (H : Type) (enc : TypeId × Value → H) (F : Stop.Interp) :
    ReturnsInHanded {} Tryz.checked os 3 .any ((Rows.OpenSpec.upto Rows.stableKnownSpec).preRow enc Tryz.prog Tryz.f3 Rows.stableKnownUptoRow.domain false Rows.stableKnownUptoRow.laid) (((Rows.OpenSpec.upto Rows.stableKnownSpec).at F).post enc Tryz.prog Tryz.f3 false true false false) := by
  obtain ⟨places, hx⟩ := reads_arg os enc
  refine returnsInHanded_of_row (C := Tryz.checked) (s := Rows.OpenSpec.upto Rows.stableKnownSpec) ownK started (by kernel_rfl) Tryz.func3
    (witness_row_at (enc := enc) (C := Tryz.checked) false (laidWorld os) #[.slice none 0 0, .slice none 0 0, .string ⟨#[]⟩] rfl (by kernel_rfl) (by kernel_rfl) (by kernel_rfl)
      (OpenSpec.preRow_of_cond 8 hx (by kernel_rfl) (fun k hk => by cases hk; kernel_rfl) (by kernel_rfl) (laid_met os))) ?_
  intro W base args ds gs before hval hW _ hcond _ hL hS _
  exact contract H enc W base args ds gs before hval hW (hcond _ rfl) hL hS
theorem reach_inPlace : (Rows.stableKnownUptoRow.inPlace == Tryz.pinned.checked.prog.inPlace 3) = true := by kernel_rfl
theorem reach_unfollowed : (Rows.stableKnownUptoRow.unfollowed == Tryz.pinned.checked.prog.unfollowed 3) = true := by kernel_rfl
theorem reach_recurses : (Rows.stableKnownUptoRow.recurses == Tryz.pinned.checked.prog.recurses 3) = true := by kernel_rfl
theorem reach_named : (Rows.stableKnownUptoRow.named == Tryz.pinned.checked.prog.varsNamed 3) = true := by kernel_rfl
theorem facts : joinedFacts Tryz.pinned.checked.prog 3 Tryz.f3 (Rows.OpenSpec.upto Rows.stableKnownSpec).bare Rows.stableKnownUptoRow = true := by
  unfold joinedFacts
  rewrite [reach_inPlace, reach_unfollowed, reach_recurses, reach_named]
  kernel_rfl
theorem said : Rows.StableKnownUptoSaid :=
  OpenClaim.holds_of_cond 3 Tryz.f3 rfl rfl rfl rfl rfl rfl rfl ⟨rfl, rfl, rfl, rfl, rfl⟩ rfl rfl rfl rfl rfl (by kernel_rfl) Tryz.func3 facts
    (of_decide_eq_true (by kernel_rfl)) (by unfold Func.isWrapper; first | (rw [if_pos (by decide +kernel)]; kernel_rfl) | (rw [if_neg (by decide +kernel)]; exact ⟨rfl, rfl⟩))
    (fun os started H enc _ F => by rw [OpenClaim.pre_eq_preRow]; exact lifted os started H enc F)
theorem plain (f : FuncId) (fn : Func) (hf : Tryz.pinned.checked.prog.funcNamed "voltaic/voltaiclaw.StableKnown" = some f) (hfn : Tryz.pinned.checked.prog.funcs[f]? = some fn) :
    false = Tryz.pinned.checked.prog.looks [] ∧ ∀ (j : Nat) t, fn.params[j]? = some t → Tryz.pinned.checked.prog.wantsStandIn t = false := by
  obtain rfl : f = 3 := Option.some.inj ((show Tryz.prog.funcNamed "voltaic/voltaiclaw.StableKnown" = some 3 by kernel_rfl).symm.trans hf) |>.symm
  obtain rfl : fn = Tryz.f3 := (Option.some.inj (Tryz.func3.symm.trans hfn)).symm
  refine ⟨by kernel_rfl, fun j t ht => ?_⟩
  rw [Tryz.params3] at ht
  have hm : t ∈ [22, 23, 24] := by simpa using Array.mem_of_getElem? ht
  have hall : ([22, 23, 24].all fun u => !Tryz.prog.wantsStandIn u) = true := by kernel_rfl
  exact (show Tryz.prog.wantsStandIn t = false by simpa using List.all_eq_true.1 hall t hm)
theorem stableKnown_holds : Rows.StableKnownUptoCardSaid :=
  Claim7.holds_tied_plain_at .later [] _ _ _ _ said (fun _ h => by cases h) (by kernel_rfl) (fun _ h => by cases h) stableKnownUpto_row_tie rfl ⟨rfl, rfl⟩ (by kernel_rfl) rfl plain (by kernel_rfl)
#print axioms stableKnown_holds
end Go.Proofs.YtklkpkkjakllfaaGreatDoor
