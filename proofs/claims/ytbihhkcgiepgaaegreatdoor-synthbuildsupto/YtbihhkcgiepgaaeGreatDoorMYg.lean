/- Parts of nets, and lists of them in memory. -/
import Derived.Test.YtbihhkcgiepgaaeGreatDoorMBase
import Derived.Test.YtbihhkcgiepgaaeGreatDoorMPb
import Derived.Test.YtbihhkcgiepgaaeGreatDoorMFe
namespace Go.Proofs.YtbihhkcgiepgaaeGreatDoor
open Go.RowKit
set_option linter.unusedVariables false

/-- A part of a net. -/
structure Prt where
  kind : Int
  a : Int
  b : Int
  c : Int
  d : Int
  v : ByteArray

/-- A part as a value. -/
def Prt.val (p : Prt) : Value := .agg #[.int .i64 p.kind, .int .i64 p.a, .int .i64 p.b, .int .i64 p.c, .int .i64 p.d, .string p.v]

/-- v holds the parts ps. -/
def PartsAt (w : World) (v : Value) (ps : List Prt) : Prop := ∃ ao cap, v = .slice ao ps.length cap ∧ ps.length ≤ cap ∧ cap ≤ maxLen ∧ ∀ i (h : i < ps.length), ∃ b off, ao = some ⟨b, off, none⟩ ∧ b < w.heap.size ∧
  w.cell? ⟨b, off + i * 6, none⟩ = some (.int .i64 ps[i].kind) ∧ w.cell? ⟨b, off + i * 6 + 1, none⟩ = some (.int .i64 ps[i].a) ∧ w.cell? ⟨b, off + i * 6 + 2, none⟩ = some (.int .i64 ps[i].b) ∧ w.cell? ⟨b, off + i * 6 + 3, none⟩ = some (.int .i64 ps[i].c) ∧ w.cell? ⟨b, off + i * 6 + 4, none⟩ = some (.int .i64 ps[i].d) ∧ w.cell? ⟨b, off + i * 6 + 5, none⟩ = some (.string ps[i].v) ∧ ps[i].v.size ≤ 600000000

theorem PartsAt.keep {w w' : World} {v : Value} {ps : List Prt} (h : PartsAt w v ps) (hg : w.grownBy w' none) : PartsAt w' v ps := by
  obtain ⟨ao, cap, e, h1, h2, h3⟩ := h
  refine ⟨ao, cap, e, h1, h2, fun i hi => ?_⟩
  obtain ⟨b, off, e, hb, c0, c1, c2, c3, c4, c5, c6⟩ := h3 i hi
  exact ⟨b, off, e, Nat.lt_of_lt_of_le hb hg.size, hg.cell c0 (by simp), hg.cell c1 (by simp), hg.cell c2 (by simp), hg.cell c3 (by simp), hg.cell c4 (by simp), hg.cell c5 (by simp), c6⟩
end Go.Proofs.YtbihhkcgiepgaaeGreatDoor

namespace Go.Proofs.YtbihhkcgiepgaaeGreatDoor
open Go.RowKit
set_option linter.unusedVariables false

/-- The cells of a part, of parts. -/
def cellsP (p : Prt) : List Value := [.int .i64 p.kind, .int .i64 p.a, .int .i64 p.b, .int .i64 p.c, .int .i64 p.d, .string p.v]
def cellsPs (ps : List Prt) : List Value := ps.flatMap cellsP

theorem cellsP_length (p : Prt) : (cellsP p).length = 6 := rfl
theorem cellsPs_length (ps : List Prt) : (cellsPs ps).length = ps.length * 6 := by
  induction ps with
  | nil => rfl
  | cons p r ih => simp only [cellsPs, List.flatMap_cons, List.length_append, cellsP_length] at ih ⊢; rw [ih, List.length_cons]; omega
theorem cellsPs_append (ps qs : List Prt) : cellsPs (ps ++ qs) = cellsPs ps ++ cellsPs qs := by simp [cellsPs]
theorem cellsPs_get (ps : List Prt) (i k : Nat) (h : i < ps.length) (hk : k < 6) : (cellsPs ps)[i * 6 + k]? = (cellsP ps[i])[k]? := by
  induction ps generalizing i with
  | nil => simp at h
  | cons p r ih =>
    show (cellsP p ++ cellsPs r)[i * 6 + k]? = _
    cases i with
    | zero => rw [List.getElem?_append_left (by rw [cellsP_length]; omega)]; simp
    | succ i =>
      rw [List.getElem?_append_right (by rw [cellsP_length]; omega), cellsP_length, show (i + 1) * 6 + k - 6 = i * 6 + k from by omega, ih i (by simpa using h)]
      simp
theorem cellsPs_one (ps : List Prt) : ∀ u ∈ cellsPs ps, u.oneCell' = true := by
  intro u hu
  simp only [cellsPs, List.mem_flatMap, cellsP] at hu
  obtain ⟨p, _, hu⟩ := hu
  simp only [List.mem_cons, List.not_mem_nil, or_false] at hu
  rcases hu with rfl | rfl | rfl | rfl | rfl | rfl <;> rfl

/-- Parts whose cells lie in a row. -/
theorem parts_of_cells {w : World} {g n cap : Nat} {ps : List Prt} (hb : g < w.heap.size) (hn : ps.length = n) (hc : n ≤ cap) (hm : cap ≤ maxLen) (hz : ∀ i (h : i < ps.length), ps[i].v.size ≤ 600000000)
    (h : ∀ j, j < n * 6 → w.cell? ⟨g, j, none⟩ = (cellsPs ps)[j]?) : PartsAt w (.slice (some ⟨g, 0, none⟩) n cap) ps := by
  subst hn
  refine ⟨_, cap, rfl, hc, hm, fun i hi => ⟨g, 0, rfl, hb, ?_⟩⟩
  have e : ∀ k, k < 6 → w.cell? ⟨g, 0 + i * 6 + k, none⟩ = (cellsP ps[i])[k]? := fun k hk => by
    rw [Nat.zero_add, h (i * 6 + k) (by omega), cellsPs_get ps i k hi hk]
  exact ⟨by have := e 0 (by omega); exact this, by have := e 1 (by omega); exact this, by have := e 2 (by omega); exact this, by have := e 3 (by omega); exact this, by have := e 4 (by omega); exact this, by have := e 5 (by omega); exact this, hz i hi⟩

/-- The cells that parts have in memory. -/
theorem PartsAt.cells {w : World} {ps : List Prt} {a : Addr} {n cap : Nat} (h : PartsAt w (.slice (some a) n cap) ps) : ∀ j u, (cellsPs ps)[j]? = some u → w.cell? (a.add j) = some u := by
  intro j u hu
  obtain ⟨ao, c, e, h1, h2, h3⟩ := h
  have hj : j < ps.length * 6 := by
    rw [← cellsPs_length]
    exact (List.getElem?_eq_some_iff.1 hu).1
  have hi : j / 6 < ps.length := by omega
  simp only [Value.slice.injEq] at e
  obtain ⟨rfl, rfl, rfl⟩ := e
  obtain ⟨b, off, e, hb, c0, c1, c2, c3, c4, c5, c6⟩ := h3 (j / 6) hi
  simp only [Option.some.injEq] at e
  subst e
  have hadd : (⟨b, off, none⟩ : Addr).add j = ⟨b, off + j, none⟩ := by unfold Addr.add; split <;> simp_all
  have ej : j = j / 6 * 6 + j % 6 := by omega
  rw [ej, cellsPs_get ps (j / 6) (j % 6) hi (by omega)] at hu
  rw [hadd, ej, ← Nat.add_assoc]
  have hk : j % 6 < 6 := by omega
  generalize j % 6 = k at hu hk
  match k, hk with
  | 0, _ => simp only [cellsP, List.getElem?_cons_zero, Option.some.injEq] at hu; subst hu; exact c0
  | 1, _ => simp only [cellsP, List.getElem?_cons_succ, List.getElem?_cons_zero, Option.some.injEq] at hu; subst hu; exact c1
  | 2, _ => simp only [cellsP, List.getElem?_cons_succ, List.getElem?_cons_zero, Option.some.injEq] at hu; subst hu; exact c2
  | 3, _ => simp only [cellsP, List.getElem?_cons_succ, List.getElem?_cons_zero, Option.some.injEq] at hu; subst hu; exact c3
  | 4, _ => simp only [cellsP, List.getElem?_cons_succ, List.getElem?_cons_zero, Option.some.injEq] at hu; subst hu; exact c4
  | 5, _ => simp only [cellsP, List.getElem?_cons_succ, List.getElem?_cons_zero, Option.some.injEq] at hu; subst hu; exact c5
end Go.Proofs.YtbihhkcgiepgaaeGreatDoor

namespace Go.Proofs.YtbihhkcgiepgaaeGreatDoor
open Go.RowKit
set_option linter.unusedVariables false
set_option linter.unusedSimpArgs false

theorem Tryz.infoPart : (Tryz.prog.info? 68).map (fun i => (i.zero, i.size, i.bytes)) = some (some (.agg #[.int .i64 0, .int .i64 0, .int .i64 0, .int .i64 0, .int .i64 0, .string ⟨#[]⟩]), 6, 56) := by kernel_rfl

/-- A slice of parts that the call itself made. -/
def OwnP (w : World) (base : Nat) (v : Value) (ps : List Prt) : Prop := w.ownsRow base 68 6 v ps.length (cellsPs ps) ∧ NoWv w v

theorem OwnP.fresh {w : World} {base : Nat} {v : Value} {ps : List Prt} (h : OwnP w base v ps) : ∀ k, v.ownBlock = some k → base ≤ k ∧ k < w.heap.size := World.ownsRow.lt h.1

theorem OwnP.keep {w w' : World} {base : Nat} {v : Value} {ps : List Prt} {r : Option Nat} (h : OwnP w base v ps) (hg : w.grownBy w' r) (hne : ∀ k, v.ownBlock = some k → some k ≠ r) : OwnP w' base v ps := by
  refine ⟨World.ownsRow.kept h.1 hg ?_, fun k ek => (h.2 k ek).keep (h.fresh k ek).2 hg (hne k ek)⟩
  cases hv : v.ownBlock with
  | none => exact .inl rfl
  | some k => exact .inr (hne k hv)

theorem OwnP.keep0 {w w' : World} {base : Nat} {v : Value} {ps : List Prt} (h : OwnP w base v ps) (hg : w.grownBy w' none) : OwnP w' base v ps := h.keep hg (fun k _ => by simp)

theorem OwnP.shape {w : World} {base : Nat} {v : Value} {ps : List Prt} (h : OwnP w base v ps) : ∃ ao c, v = .slice ao ps.length c ∧ ps.length ≤ c ∧ c ≤ maxLen := by
  rcases h.1.2 with ⟨rfl, h0⟩ | ⟨g, cap, cur, rfl, hb, hh, h1, h2, h3, h4⟩
  · exact ⟨none, 0, by rw [h0], by omega, by unfold maxLen; omega⟩
  · exact ⟨_, cap, rfl, h1, h2⟩

theorem ownP_nil {w : World} {base : Nat} : OwnP w base (.slice none 0 0) [] := ⟨World.ownsRow_nil _ _ _ _, NoWv.nil _⟩

theorem OwnP.parts {w : World} {base : Nat} {v : Value} {ps : List Prt} (h : OwnP w base v ps) (hz : ∀ p ∈ ps, p.v.size ≤ 600000000) : PartsAt w v ps := by
  rcases h.1.2 with ⟨rfl, h0⟩ | ⟨g, cap, cur, rfl, hb, hh, h1, h2, h3, h4⟩
  · have : ps = [] := List.eq_nil_of_length_eq_zero h0
    subst this
    exact ⟨none, 0, rfl, Nat.le_refl _, by unfold maxLen; omega, fun i hi => by simp at hi⟩
  · refine parts_of_cells (Array.getElem?_eq_some_iff.1 hh).1 rfl h1 h2 (fun i hi => hz _ (List.getElem_mem hi)) (fun j hj => ?_)
    simp only [World.cell?, hh]
    rw [← h4, List.getElem?_take, if_pos hj, Array.getElem?_toList]
    rfl

theorem cellsPs_nw (ps : List Prt) : ∀ u ∈ cellsPs ps, ∀ x : Nat, u ≠ .int .u32 (x : Nat) := by
  intro u hu x
  simp only [cellsPs, List.mem_flatMap, cellsP] at hu
  obtain ⟨p, _, hu⟩ := hu
  simp only [List.mem_cons, List.not_mem_nil, or_false] at hu
  rcases hu with rfl | rfl | rfl | rfl | rfl | rfl <;> (intro e; cases e)

theorem run_append_prt {P : Program} (W : World) (t ty : TypeId) (base : Nat)
    (h1 : P.underlying t = some (.slice 68)) (hinfo : (P.info? 68).map (fun i => (i.zero, i.size, i.bytes)) = some (some (.agg #[.int .i64 0, .int .i64 0, .int .i64 0, .int .i64 0, .int .i64 0, .string ⟨#[]⟩]), 6, 56))
    (v : Value) (ps : List Prt) (hown : OwnP W base v ps) (b : Nat) (y : Prt) (hc : W.heap[b]? = some (.cells (cellsP y).toArray 68 (0, 0)))
    (hlen : ps.length ≤ 1000000) (hbase : base ≤ W.heap.size) :
    ∃ ao cap w', (Builtin.append_ #[t, t] ty #[v, .slice (some ⟨b, 0, none⟩) 1 1]).run P W = .ok (.slice ao (ps.length + 1) cap) w' ∧ OwnP w' base (.slice ao (ps.length + 1) cap) (ps ++ [y]) ∧ W.grownBy w' v.ownBlock ∧ WKept W w' := by
  obtain ⟨i, hi, hz0, hsz, hz2⟩ := info_parts hinfo
  obtain ⟨v', w', hr, h2, h3, h4, h5⟩ := run_append_nwf (P := P) W base t ty 68 i _ 6 56 h1 hi hz0 hsz hz2 rfl (by decide)
    (fun j x hj => by
      have hc : j = 0 ∨ j = 1 ∨ j = 2 ∨ j = 3 ∨ j = 4 ∨ j = 5 := by omega
      rcases hc with rfl | rfl | rfl | rfl | rfl | rfl <;> (intro e; cases e))
    v ps.length (cellsPs ps) hown.1 hown.2 (cellsPs_nw ps) ⟨b, 0, none⟩ 1 1 (cellsPs [y]) rfl (by decide) (World.news_of_block (cs := (cellsPs [y]).toArray) (t := 68) (fr := (0, 0)) (by rw [hc]; rfl)) (cellsPs_one _) (cellsPs_nw _) (by unfold maxLen; omega) (by omega) hbase
  have h6 : OwnP w' base v' (ps ++ [y]) := by
    refine ⟨?_, h4⟩
    rw [List.length_append, cellsPs_append]
    exact h2
  obtain ⟨ao, cap, ev, _, _⟩ := h6.shape
  rw [List.length_append, List.length_singleton] at ev
  rw [ev] at h6 hr
  exact ⟨ao, cap, w', hr, h6, h3, h5⟩

/-- 'append(s, y)', y a part. -/
theorem wpList_append_prt {P : Program} (W : World) {ops : Array Oper} {rest : List Oper} {o : Oper} {a : Act} {Q : Exit → Act → World → Prop}
    (hg : o.guard = none) (s x : Operand) (t : TypeId) (ho : o.op = .call { callee := .builtin .append, args := #[s, x], argTypes := #[t, t] }) (base : Nat)
    (h1 : P.underlying t = some (.slice 68)) (hinfo : (P.info? 68).map (fun i => (i.zero, i.size, i.bytes)) = some (some (.agg #[.int .i64 0, .int .i64 0, .int .i64 0, .int .i64 0, .int .i64 0, .string ⟨#[]⟩]), 6, 56))
    (v : Value) (ps : List Prt) (hs : a.eval s = v) (hown : OwnP W base v ps) (b : Nat) (y : Prt) (hx : a.eval x = .slice (some ⟨b, 0, none⟩) 1 1) (hc : W.heap[b]? = some (.cells (cellsP y).toArray 68 (0, 0)))
    (hlen : ps.length ≤ 1000000) (hbase : base ≤ W.heap.size)
    (hK : ∀ ao cap w', OwnP w' base (.slice ao (ps.length + 1) cap) (ps ++ [y]) → W.grownBy w' v.ownBlock → WKept W w' → wpList P ops Q rest (a.put o.dst (.slice ao (ps.length + 1) cap)) w') : wpList P ops Q (o :: rest) a W := by
  obtain ⟨ao, cap, w', hr, h2, h3, h4⟩ := run_append_prt (P := P) W t o.type base h1 hinfo v ps hown b y hc hlen hbase
  refine wpList_plain hg fun _ hK2 => ?_
  unfold Oper.wp execOp
  simp only [ho, resolve, invoke, builtin, Sem.run_bind, Sem.run_pure, Result.andThen_ok, List.map_toArray, List.map_cons, List.map_nil, hs, hx, hr]
  exact hK2 _ _ (hK ao cap w' h2 h3 h4)

/-- The same as one step of a region that draws its order. -/
theorem step_append_prt {P : Program} (W : World) {ops : Array Oper} {o : Oper} {a : Act} {K : Act → World → Prop} {Q : Exit → Act → World → Prop} {E : Prop}
    (hg : o.guard = none) (s x : Operand) (t : TypeId) (ho : o.op = .call { callee := .builtin .append, args := #[s, x], argTypes := #[t, t] }) (base : Nat)
    (h1 : P.underlying t = some (.slice 68)) (hinfo : (P.info? 68).map (fun i => (i.zero, i.size, i.bytes)) = some (some (.agg #[.int .i64 0, .int .i64 0, .int .i64 0, .int .i64 0, .int .i64 0, .string ⟨#[]⟩]), 6, 56))
    (v : Value) (ps : List Prt) (hs : a.eval s = v) (hown : OwnP W base v ps) (b : Nat) (y : Prt) (hx : a.eval x = .slice (some ⟨b, 0, none⟩) 1 1) (hc : W.heap[b]? = some (.cells (cellsP y).toArray 68 (0, 0)))
    (hlen : ps.length ≤ 1000000) (hbase : base ≤ W.heap.size)
    (hK : ∀ ao cap w', OwnP w' base (.slice ao (ps.length + 1) cap) (ps ++ [y]) → W.grownBy w' v.ownBlock → WKept W w' → K (a.put o.dst (.slice ao (ps.length + 1) cap)) w') :
    if Region.wanted o (yielded ops a.tmps) = true then Oper.wp P o a W K Q else E := by
  have hw : Region.wanted o (yielded ops a.tmps) = true := by simp [Region.wanted, hg]
  rw [if_pos hw]
  obtain ⟨ao, cap, w', hr, h2, h3, h4⟩ := run_append_prt (P := P) W t o.type base h1 hinfo v ps hown b y hc hlen hbase
  unfold Oper.wp execOp
  simp only [ho, resolve, invoke, builtin, Sem.run_bind, Sem.run_pure, Result.andThen_ok, List.map_toArray, List.map_cons, List.map_nil, hs, hx, hr]
  exact hK ao cap w' h2 h3 h4
end Go.Proofs.YtbihhkcgiepgaaeGreatDoor
