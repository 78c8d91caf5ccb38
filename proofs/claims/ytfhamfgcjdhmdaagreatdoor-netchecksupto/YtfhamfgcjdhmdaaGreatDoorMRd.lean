/- voltaicsame: Lend at parts. -/
import Derived.Test.YtfhamfgcjdhmdaaGreatDoorMLaw
import Derived.Laws.OwnMore
import Derived.Deep.RegionLaw
import Derived.Deep.RegionHeld3
namespace Go.Proofs.YtfhamfgcjdhmdaaGreatDoor
open Go.RowKit
set_option linter.unusedVariables false

/-- The cells of a part, of parts. -/
def cellsP (p : Prt) : List Value := [.int .i64 p.kind, .int .i64 p.a, .int .i64 p.b, .int .i64 p.c, .int .i64 p.d, .string p.v]
def cellsPs (ps : List Prt) : List Value := ps.flatMap cellsP

theorem cellsP_length (p : Prt) : (cellsP p).length = 6 := rfl
theorem cellsPs_length (ps : List Prt) : (cellsPs ps).length = ps.length * 6 := by
  induction ps with
  | nil => rfl
  | cons p r ih => simp only [cellsPs, List.flatMap_cons, List.length_append, cellsP_length] at ih ⊢; rw [ih, List.length_cons]; omega
theorem cellsPs_append (ps qs : List Prt) : cellsPs (ps ++ qs) = cellsPs ps ++ cellsPs qs := by simp [cellsPs]
theorem cellsPs_get (ps : List Prt) (i k : Nat) (h : i < ps.length) (hk : k < 6) : (cellsPs ps)[i * 6 + k]? = (cellsP ps[i])[k]? := by
  induction ps generalizing i with
  | nil => simp at h
  | cons p r ih =>
    show (cellsP p ++ cellsPs r)[i * 6 + k]? = _
    cases i with
    | zero => rw [List.getElem?_append_left (by rw [cellsP_length]; omega)]; simp
    | succ i =>
      rw [List.getElem?_append_right (by rw [cellsP_length]; omega), cellsP_length, show (i + 1) * 6 + k - 6 = i * 6 + k from by omega, ih i (by simpa using h)]
      simp
theorem cellsPs_one (ps : List Prt) : ∀ u ∈ cellsPs ps, u.oneCell' = true := by
  intro u hu
  simp only [cellsPs, List.mem_flatMap, cellsP] at hu
  obtain ⟨p, _, hu⟩ := hu
  simp only [List.mem_cons, List.not_mem_nil, or_false] at hu
  rcases hu with rfl | rfl | rfl | rfl | rfl | rfl <;> rfl

/-- Parts whose cells lie in a row. -/
theorem parts_of_cells {w : World} {g n cap : Nat} {ps : List Prt} (hb : g < w.heap.size) (hn : ps.length = n) (hc : n ≤ cap) (hm : cap ≤ maxLen) (hz : ∀ i (h : i < ps.length), ps[i].v.size ≤ 600000000)
    (h : ∀ j, j < n * 6 → w.cell? ⟨g, j, none⟩ = (cellsPs ps)[j]?) : PartsAt w (.slice (some ⟨g, 0, none⟩) n cap) ps := by
  subst hn
  refine ⟨_, cap, rfl, hc, hm, fun i hi => ⟨g, 0, rfl, hb, ?_⟩⟩
  have e : ∀ k, k < 6 → w.cell? ⟨g, 0 + i * 6 + k, none⟩ = (cellsP ps[i])[k]? := fun k hk => by
    rw [Nat.zero_add, h (i * 6 + k) (by omega), cellsPs_get ps i k hi hk]
  exact ⟨by have := e 0 (by omega); exact this, by have := e 1 (by omega); exact this, by have := e 2 (by omega); exact this, by have := e 3 (by omega); exact this, by have := e 4 (by omega); exact this, by have := e 5 (by omega); exact this, hz i hi⟩

/-- The cells that parts have in memory. -/
theorem PartsAt.cells {w : World} {ps : List Prt} {a : Addr} {n cap : Nat} (h : PartsAt w (.slice (some a) n cap) ps) : ∀ j u, (cellsPs ps)[j]? = some u → w.cell? (a.add j) = some u := by
  intro j u hu
  obtain ⟨ao, c, e, h1, h2, h3⟩ := h
  have hj : j < ps.length * 6 := by
    rw [← cellsPs_length]
    exact (List.getElem?_eq_some_iff.1 hu).1
  have hi : j / 6 < ps.length := by omega
  simp only [Value.slice.injEq] at e
  obtain ⟨rfl, rfl, rfl⟩ := e
  obtain ⟨b, off, e, hb, c0, c1, c2, c3, c4, c5, c6⟩ := h3 (j / 6) hi
  simp only [Option.some.injEq] at e
  subst e
  have hadd : (⟨b, off, none⟩ : Addr).add j = ⟨b, off + j, none⟩ := by unfold Addr.add; split <;> simp_all
  have ej : j = j / 6 * 6 + j % 6 := by omega
  rw [ej, cellsPs_get ps (j / 6) (j % 6) hi (by omega)] at hu
  rw [hadd, ej, ← Nat.add_assoc]
  have hk : j % 6 < 6 := by omega
  generalize j % 6 = k at hu hk
  match k, hk with
  | 0, _ => simp only [cellsP, List.getElem?_cons_zero, Option.some.injEq] at hu; subst hu; exact c0
  | 1, _ => simp only [cellsP, List.getElem?_cons_succ, List.getElem?_cons_zero, Option.some.injEq] at hu; subst hu; exact c1
  | 2, _ => simp only [cellsP, List.getElem?_cons_succ, List.getElem?_cons_zero, Option.some.injEq] at hu; subst hu; exact c2
  | 3, _ => simp only [cellsP, List.getElem?_cons_succ, List.getElem?_cons_zero, Option.some.injEq] at hu; subst hu; exact c3
  | 4, _ => simp only [cellsP, List.getElem?_cons_succ, List.getElem?_cons_zero, Option.some.injEq] at hu; subst hu; exact c4
  | 5, _ => simp only [cellsP, List.getElem?_cons_succ, List.getElem?_cons_zero, Option.some.injEq] at hu; subst hu; exact c5

/-- append where there is room, of cells that are known: as one step of a region that draws. -/
theorem step_append_fits {P : Program} {ops : Array Oper} {o : Oper} {a : Act} {w : World} {K : Act → World → Prop} {Q : Exit → Act → World → Prop} {E : Prop}
    (hgd : o.guard = none) (s x : Operand) (t : TypeId) (ho : o.op = Op.call { callee := Callee.builtin Builtin.append, args := #[s, x], argTypes := #[t, t] })
    (base : Nat) (e : TypeId) (i : TypeInfo) (size : Nat) (ht : P.underlying t = some (.slice e)) (hi : P.info? e = some i) (hsize : i.size = size)
    (g n cap : Nat) (xs : List Value) (hs : a.eval s = .slice (some ⟨g, 0, none⟩) n cap) (hown : w.ownsRow base e size (.slice (some ⟨g, 0, none⟩) n cap) n xs)
    (src : Value) (m : Nat) (news : List Value) (hx : a.eval x = src) (hsrc : (src = .slice none 0 0 ∧ m = 0) ∨ ∃ ad c, src = .slice (some ad) m c ∧ ∀ j u, news[j]? = some u → w.cell? (ad.add j) = some u)
    (hl : news.length = m * size) (h1 : ∀ u ∈ news, u.oneCell' = true) (hroom : n + m ≤ cap)
    (h : ∀ w', w'.ownsRow base e size (.slice (some ⟨g, 0, none⟩) (n + m) cap) (n + m) (xs ++ news) → w.grownBy w' (some g) → K (a.put o.dst (.slice (some ⟨g, 0, none⟩) (n + m) cap)) w') :
    if Region.wanted o (yielded ops a.tmps) = true then Oper.wp P o a w K Q else E := by
  have hw : Region.wanted o (yielded ops a.tmps) = true := by simp [Region.wanted, hgd]
  rw [if_pos hw]
  rcases hsrc with ⟨rfl, rfl⟩ | ⟨ad, c, rfl, hnews⟩
  · have hr := run_append_owned_none (P := P) w base t o.type e i size ht hi _ n xs hown
    have hn0 : news = [] := List.eq_nil_of_length_eq_zero (by simpa using hl)
    subst hn0
    unfold Oper.wp execOp
    simp only [ho, resolve, invoke, builtin, Sem.run_bind, Sem.run_pure, Result.andThen_ok, List.map_toArray, List.map_cons, List.map_nil, hs, hx, hr]
    refine h w ?_ ⟨rfl, rfl, rfl, Nat.le_refl _, fun _ _ _ => rfl⟩
    rw [List.append_nil]
    exact hown
  · obtain ⟨w', hr, k1, k2⟩ := run_append_fits (P := P) w base t o.type e i size ht hi hsize g n cap xs hown ad m c news hl hnews h1 hroom
    unfold Oper.wp execOp
    simp only [ho, resolve, invoke, builtin, Sem.run_bind, Sem.run_pure, Result.andThen_ok, List.map_toArray, List.map_cons, List.map_nil, hs, hx, hr]
    exact h w' k1 k2

theorem owns_of_heap {w : World} {g cap base : Nat} {mc : Array Value} {e : TypeId} {size : Nat} (h : w.heap[g]? = some (.cells mc e (0, 0))) (hb : base ≤ g) (hm : cap ≤ maxLen) (hs : mc.size = cap * size) :
    w.ownsRow base e size (.slice (some ⟨g, 0, none⟩) 0 cap) 0 [] :=
  ⟨by simp, .inr ⟨g, cap, mc, rfl, hb, h, Nat.zero_le _, hm, hs, by simp⟩⟩

theorem owns_keep {w w' : World} {g n cap base : Nat} {e : TypeId} {size : Nat} {xs : List Value} {row : Option Nat} (h : w.ownsRow base e size (.slice (some ⟨g, 0, none⟩) n cap) n xs) (hg : w.grownBy w' row) (hr : some g ≠ row) : w'.ownsRow base e size (.slice (some ⟨g, 0, none⟩) n cap) n xs := by
  refine ⟨h.1, ?_⟩
  rcases h.2 with ⟨h', _⟩ | ⟨g', cap', cur, h', k1, k2, k3, k4, k5, k6⟩
  · simp at h'
  · simp only [Value.slice.injEq, Option.some.injEq, Addr.mk.injEq, and_true, true_and] at h'
    obtain ⟨rfl, rfl⟩ := h'
    exact .inr ⟨g, cap, cur, rfl, k1, by rw [hg.block g (Array.getElem?_eq_some_iff.1 k2).1 hr]; exact k2, k3, k4, k5, k6⟩

/-- What Lend answers. -/
def LendE (w : World) (ps : List Prt) (mk : Prt) (e : Ending) (w' : World) : Prop :=
  ∃ g, e = .returned (.slice (some ⟨g, 0, none⟩) ps.length (ps.length + 3)) ∧ PartsAt w' (.slice (some ⟨g, 0, none⟩) (ps.length + 3) (ps.length + 3)) (ps ++ [mk, mk, mk]) ∧ w.heap.size ≤ g ∧ w.grownBy w' none

theorem lend_end {w W : World} {g : Nat} {ps : List Prt} {mk : Prt} (h : W.ownsRow w.heap.size 62 6 (.slice (some ⟨g, 0, none⟩) (ps.length + 3) (ps.length + 3)) (ps.length + 3) (cellsPs ps ++ cellsPs [mk, mk, mk])) (hg : w.grownBy W none) (hn : ps.length ≤ 100000000) (hz : ∀ i (h : i < ps.length), ps[i].v.size ≤ 600000000) (hmk : mk.v.size ≤ 600000000) :
    LendE w ps mk (.returned (.slice (some ⟨g, 0, none⟩) ps.length (ps.length + 3))) W := by
  have hcell := fun j (hj : j < (ps.length + 3) * 6) => World.ownsRow.cellAt h j hj
  rcases h.2 with ⟨h', _⟩ | ⟨g', cap', cur, h', k1, k2, k3, k4, k5, k6⟩
  · simp at h'
  · simp only [Value.slice.injEq, Option.some.injEq, Addr.mk.injEq, and_true, true_and] at h'
    obtain ⟨rfl, rfl⟩ := h'
    refine ⟨g, rfl, parts_of_cells (Array.getElem?_eq_some_iff.1 k2).1 (by simp) (Nat.le_refl _) k4 ?_ ?_, k1, hg⟩
    · intro i hi
      have hall : ∀ p ∈ ps ++ [mk, mk, mk], p.v.size ≤ 600000000 := by
        intro p hp
        rcases List.mem_append.1 hp with hp | hp
        · obtain ⟨i, hi, rfl⟩ := List.getElem_of_mem hp
          exact hz i hi
        · simp only [List.mem_cons, List.not_mem_nil, or_false, or_self] at hp
          subst hp
          exact hmk
      exact hall _ (List.getElem_mem hi)
    · intro j hj
      rw [hcell j hj, cellsPs_append]
end Go.Proofs.YtfhamfgcjdhmdaaGreatDoor

namespace Go.Proofs.YtfhamfgcjdhmdaaGreatDoor
open Go.RowKit
set_option linter.unusedVariables false
set_option linter.unusedSimpArgs false

theorem Tryz.infoPart : (Tryz.prog.info? 62).map (fun i => (i.zero, i.size, i.bytes)) = some (some (.agg #[.int .i64 0, .int .i64 0, .int .i64 0, .int .i64 0, .int .i64 0, .string ⟨#[]⟩]), 6, 56) := by kernel_rfl

theorem push1 {h : Array Obj} {a b : Obj} : ((h.push a).push b)[h.size + 1]? = some b := by
  rw [Array.getElem?_push, if_pos (by simp)]
theorem push2 {h : Array Obj} {a b c : Obj} : (((h.push a).push b).push c)[h.size + 1]? = some b := by
  rw [Array.getElem?_push, if_neg (by simp)]; exact push1
theorem push3 {h : Array Obj} {a b c : Obj} : (((h.push a).push b).push c)[h.size + 2]? = some c := by
  rw [Array.getElem?_push, if_pos (by simp)]

theorem gr_tail {w w1 w2 : World} {r : Option Nat} (h : w.grownBy w1 none) (k : w1.grownBy w2 r) : w.grownBy w2 r := gr_trans h k (fun _ _ e => by cases e) (fun _ _ e => e)

theorem gr_row2 {w w1 w2 : World} {g : Nat} (h : w.grownBy w1 (some g)) (k : w1.grownBy w2 (some g)) : w.grownBy w2 (some g) := gr_trans h k (fun _ _ e => e) (fun _ _ e => e)
theorem gr_fresh {w w1 : World} {g : Nat} (h : w.grownBy w1 (some g)) (hg : w.heap.size ≤ g) : w.grownBy w1 none := ⟨h.os, h.tape, h.output, h.size, fun k hk _ => h.block k hk (by intro e; have := Option.some.inj e; omega)⟩

theorem gr_drew {w w1 : World} {r : Option Nat} (h : w.grownBy w1 r) : w.grownBy w1.drew r := ⟨h.os, h.tape, h.output, h.size, h.block⟩

set_option maxHeartbeats 8000000 in
set_option maxRecDepth 10000 in
theorem lend_at (pv : Value) (ps : List Prt) (mk : Prt) (w : World) (hp : PartsAt w pv ps) (hnil : ∀ c, pv = .slice none 0 c → c = 0) (hn : ps.length ≤ 100000000) (hmk : mk.v.size ≤ 600000000) :
    Calls Tryz.prog 78 #[pv, mk.val] w fun e w' => LendE w ps mk e w' := by
  obtain ⟨ao, cap, epv, h1, h2, h3⟩ := hp
  have HP : Hid (PartsAt w pv ps) := ⟨ao, cap, epv, h1, h2, h3⟩
  have HZ : Hid (∀ i (h : i < ps.length), ps[i].v.size ≤ 600000000) := fun i h => by obtain ⟨_, _, _, _, _, _, _, _, _, _, c6⟩ := h3 i h; exact c6
  have HSRC : Hid (∀ wx, w.grownBy wx none → (pv = .slice none 0 0 ∧ ps.length = 0) ∨ ∃ ad c, pv = .slice (some ad) ps.length c ∧ ∀ j u, (cellsPs ps)[j]? = some u → wx.cell? (ad.add j) = some u) := by
    intro wx hg
    cases ao with
    | none =>
      left
      have h0 : ps.length = 0 := by
        rcases Nat.eq_zero_or_pos ps.length with h | h
        · exact h
        · obtain ⟨_, _, e, _⟩ := h3 0 h
          cases e
      rw [h0] at epv
      have := hnil cap epv
      subst this
      exact ⟨epv, h0⟩
    | some a =>
      right
      refine ⟨a, cap, epv, ?_⟩
      have := HP.out.keep hg
      rw [epv] at this
      exact this.cells
  obtain ⟨ii, hi, hz0, hz1, hz2⟩ := info_parts Tryz.infoPart
  obtain ⟨mc, hmc⟩ : ∃ mc, mc = madeCells (Value.agg #[.int .i64 0, .int .i64 0, .int .i64 0, .int .i64 0, .int .i64 0, .string ⟨#[]⟩]).cells ((ps.length + 3) * 6) := ⟨_, rfl⟩
  have hms : mc.size = (ps.length + 3) * 6 := by rw [hmc, size_madeCells]
  have hmk1 : ∀ wx : World, (Instr.makeSlice 36 (.int .i64 0) (.int .i64 ((ps.length : Int) + 3))).run Tryz.prog wx = .ok (.slice (some ⟨wx.heap.size, 0, none⟩) 0 (ps.length + 3)) (wx.alloc (.cells mc 62)) := by
    intro wx
    have := run_make (P := Tryz.prog) wx 36 62 ii _ Tryz.underlying36 hi hz0 .i64 .i64 0 ((ps.length : Int) + 3) (by omega) (by omega) (by rw [hz2]; omega) (by omega)
    rw [this, hz1, hmc]
    have e : ((ps.length : Int) + 3).toNat = ps.length + 3 := by omega
    rw [e]
    rfl
  have hmk2 : ∀ wx : World, (Instr.makeSlice 36 (.int .i64 0) (.int .i64 (IntKind.i64.wrap ((ps.length : Int) + 3)))).run Tryz.prog wx = .ok (.slice (some ⟨wx.heap.size, 0, none⟩) 0 (ps.length + 3)) (wx.alloc (.cells mc 62)) := by
    intro wx
    rw [IntWalk.i64_in _ ⟨by omega, by omega⟩]
    exact hmk1 wx
  have HL : Hid ((cellsPs ps).length = ps.length * 6) := cellsPs_length ps
  have HMS := hide hms
  obtain ⟨m0, m1, m2, m3, m4, m5⟩ := mk
  have HMK := hide hmk
  subst epv
  clear h1 h2 h3 hmc hms hmk hnil
  have BOXF : Hid (∀ (wx : World) (G : Nat), G ≠ w.heap.size → (w.alloc (Obj.cells #[.int .i64 m0, .int .i64 m1, .int .i64 m2, .int .i64 m3, .int .i64 m4, .string m5] 62)).grownBy wx (some G) →
      wx.cell? ⟨w.heap.size, 0, none⟩ = some (.int .i64 m0) ∧ wx.cell? ⟨w.heap.size, 1, none⟩ = some (.int .i64 m1) ∧ wx.cell? ⟨w.heap.size, 2, none⟩ = some (.int .i64 m2) ∧ wx.cell? ⟨w.heap.size, 3, none⟩ = some (.int .i64 m3) ∧ wx.cell? ⟨w.heap.size, 4, none⟩ = some (.int .i64 m4) ∧ wx.cell? ⟨w.heap.size, 5, none⟩ = some (.string m5)) := by
    intro wx G hG hg
    have e : wx.heap[w.heap.size]? = some (Obj.cells #[.int .i64 m0, .int .i64 m1, .int .i64 m2, .int .i64 m3, .int .i64 m4, .string m5] 62 (0, 0)) := by
      rw [hg.block w.heap.size (by simp) (by intro e; exact hG (Option.some.inj e).symm)]
      exact heap_alloc_new w _
    refine ⟨?_, ?_, ?_, ?_, ?_, ?_⟩ <;> simp [World.cell?, e]
  simp only [Prt.val]
  go_enter Tryz.func78, Tryz.ntmps78
  go_wp2
  go_region_held3 (fun w' => w'.cell? ⟨w.heap.size, 0, none⟩ = some (.int .i64 m0) ∧ w'.cell? ⟨w.heap.size, 1, none⟩ = some (.int .i64 m1) ∧ w'.cell? ⟨w.heap.size, 2, none⟩ = some (.int .i64 m2) ∧ w'.cell? ⟨w.heap.size, 3, none⟩ = some (.int .i64 m3) ∧ w'.cell? ⟨w.heap.size, 4, none⟩ = some (.int .i64 m4) ∧ w'.cell? ⟨w.heap.size, 5, none⟩ = some (.string m5)) (go_keep)
    (first | (refine step_append_fits rfl (.tmp 9) (.tmp 10) 36 rfl w.heap.size 62 ii 6 Tryz.underlying36 hi hz1 (w.heap.size + 1) 0 (ps.length + 3) [] ?_ ?_ (.slice ao ps.length cap) ps.length (cellsPs ps) ?_ ?_ HL.out (cellsPs_one ps) ?_ ?_; (focus simp [Act.eval, Act.put]); (focus refine owns_of_heap ?_ (by omega) (by unfold maxLen; omega) HMS.out; first | exact push1 | exact push2 | exact push3); (focus simp [Act.eval, Act.put]); (focus refine HSRC.out _ ?_; (repeat (first | exact gr_refl _ _ | refine gr_alloc ?_ _ | refine gr_drew ?_ | refine gr_drewN ?_ _))); (focus omega); intro w4 a1 a2; rw [Nat.zero_add, List.nil_append] at a1; have B4 : (w.alloc (Obj.cells #[.int .i64 m0, .int .i64 m1, .int .i64 m2, .int .i64 m3, .int .i64 m4, .string m5] 62)).grownBy w4 (some (w.heap.size + 1)) := gr_tail (by (repeat (first | exact gr_refl _ _ | refine gr_alloc ?_ _ | refine gr_drew ?_ | refine gr_drewN ?_ _))) a2; have A4 := gr_tail (w := w) (by (repeat (first | exact gr_refl _ _ | refine gr_alloc ?_ _ | refine gr_drew ?_ | refine gr_drewN ?_ _))) a2; obtain ⟨q0, q1, q2, q3, q4, q5⟩ := BOXF.out _ _ (by omega) B4) | (refine step_append_fits rfl (.tmp 9) (.tmp 10) 36 rfl w.heap.size 62 ii 6 Tryz.underlying36 hi hz1 (w.heap.size + 2) 0 (ps.length + 3) [] ?_ ?_ (.slice ao ps.length cap) ps.length (cellsPs ps) ?_ ?_ HL.out (cellsPs_one ps) ?_ ?_; (focus simp [Act.eval, Act.put]); (focus refine owns_of_heap ?_ (by omega) (by unfold maxLen; omega) HMS.out; first | exact push1 | exact push2 | exact push3); (focus simp [Act.eval, Act.put]); (focus refine HSRC.out _ ?_; (repeat (first | exact gr_refl _ _ | refine gr_alloc ?_ _ | refine gr_drew ?_ | refine gr_drewN ?_ _))); (focus omega); intro w4 a1 a2; rw [Nat.zero_add, List.nil_append] at a1; have B4 : (w.alloc (Obj.cells #[.int .i64 m0, .int .i64 m1, .int .i64 m2, .int .i64 m3, .int .i64 m4, .string m5] 62)).grownBy w4 (some (w.heap.size + 2)) := gr_tail (by (repeat (first | exact gr_refl _ _ | refine gr_alloc ?_ _ | refine gr_drew ?_ | refine gr_drewN ?_ _))) a2; have A4 := gr_tail (w := w) (by (repeat (first | exact gr_refl _ _ | refine gr_alloc ?_ _ | refine gr_drew ?_ | refine gr_drewN ?_ _))) a2; obtain ⟨q0, q1, q2, q3, q4, q5⟩ := BOXF.out _ _ (by omega) B4) | (refine step_append_fits rfl (.tmp 11) (.tmp 15) 36 rfl w.heap.size 62 ii 6 Tryz.underlying36 hi hz1 (w.heap.size + 1) ps.length (ps.length + 3) (cellsPs ps) ?_ ?_ (.slice (some ⟨w4.heap.size, 0, none⟩) 3 3) 3 (cellsPs [(⟨m0, m1, m2, m3, m4, m5⟩ : Prt), (⟨m0, m1, m2, m3, m4, m5⟩ : Prt), (⟨m0, m1, m2, m3, m4, m5⟩ : Prt)]) ?_ ?_ rfl (cellsPs_one _) ?_ ?_; (focus simp [Act.eval, Act.put]); (focus exact owns_keep (row := none) a1 (gr_alloc (gr_refl _ _) _) (by simp)); (focus simp [Act.eval, Act.put]); (focus refine .inr ⟨_, 3, rfl, World.news_of_block (cs := (cellsPs [(⟨m0, m1, m2, m3, m4, m5⟩ : Prt), (⟨m0, m1, m2, m3, m4, m5⟩ : Prt), (⟨m0, m1, m2, m3, m4, m5⟩ : Prt)]).toArray) (t := 62) (fr := (0, 0)) ?_⟩; exact heap_alloc_new w4 _); (focus omega); intro w5 b1 b2; have B5 : (w.alloc (Obj.cells #[.int .i64 m0, .int .i64 m1, .int .i64 m2, .int .i64 m3, .int .i64 m4, .string m5] 62)).grownBy w5 (some (w.heap.size + 1)) := gr_row2 (by first | exact B4 | exact gr_alloc B4 _) b2; have A5 : w.grownBy w5 (some (w.heap.size + 1)) := gr_row2 (by first | exact A4 | exact gr_alloc A4 _) b2; obtain ⟨p0, p1, p2, p3, p4, p5⟩ := BOXF.out _ _ (by omega) B5) | (refine step_append_fits rfl (.tmp 11) (.tmp 15) 36 rfl w.heap.size 62 ii 6 Tryz.underlying36 hi hz1 (w.heap.size + 1) ps.length (ps.length + 3) (cellsPs ps) ?_ ?_ (.slice (some ⟨(w.heap.size + 2), 0, none⟩) 3 3) 3 (cellsPs [(⟨m0, m1, m2, m3, m4, m5⟩ : Prt), (⟨m0, m1, m2, m3, m4, m5⟩ : Prt), (⟨m0, m1, m2, m3, m4, m5⟩ : Prt)]) ?_ ?_ rfl (cellsPs_one _) ?_ ?_; (focus simp [Act.eval, Act.put]); (focus exact a1); (focus simp [Act.eval, Act.put]); (focus refine .inr ⟨_, 3, rfl, World.news_of_block (cs := (cellsPs [(⟨m0, m1, m2, m3, m4, m5⟩ : Prt), (⟨m0, m1, m2, m3, m4, m5⟩ : Prt), (⟨m0, m1, m2, m3, m4, m5⟩ : Prt)]).toArray) (t := 62) (fr := (0, 0)) ?_⟩; rw [a2.block (w.heap.size + 2) (by simp) (by simp)]; exact push3); (focus omega); intro w5 b1 b2; have B5 : (w.alloc (Obj.cells #[.int .i64 m0, .int .i64 m1, .int .i64 m2, .int .i64 m3, .int .i64 m4, .string m5] 62)).grownBy w5 (some (w.heap.size + 1)) := gr_row2 (by first | exact B4 | exact gr_alloc B4 _) b2; have A5 : w.grownBy w5 (some (w.heap.size + 1)) := gr_row2 (by first | exact A4 | exact gr_alloc A4 _) b2; obtain ⟨p0, p1, p2, p3, p4, p5⟩ := BOXF.out _ _ (by omega) B5) | (refine step_append_fits rfl (.tmp 11) (.tmp 15) 36 rfl w.heap.size 62 ii 6 Tryz.underlying36 hi hz1 (w.heap.size + 2) ps.length (ps.length + 3) (cellsPs ps) ?_ ?_ (.slice (some ⟨(w.heap.size + 1), 0, none⟩) 3 3) 3 (cellsPs [(⟨m0, m1, m2, m3, m4, m5⟩ : Prt), (⟨m0, m1, m2, m3, m4, m5⟩ : Prt), (⟨m0, m1, m2, m3, m4, m5⟩ : Prt)]) ?_ ?_ rfl (cellsPs_one _) ?_ ?_; (focus simp [Act.eval, Act.put]); (focus exact a1); (focus simp [Act.eval, Act.put]); (focus refine .inr ⟨_, 3, rfl, World.news_of_block (cs := (cellsPs [(⟨m0, m1, m2, m3, m4, m5⟩ : Prt), (⟨m0, m1, m2, m3, m4, m5⟩ : Prt), (⟨m0, m1, m2, m3, m4, m5⟩ : Prt)]).toArray) (t := 62) (fr := (0, 0)) ?_⟩; rw [a2.block (w.heap.size + 1) (by simp) (by simp)]; exact push2); (focus omega); intro w5 b1 b2; have B5 : (w.alloc (Obj.cells #[.int .i64 m0, .int .i64 m1, .int .i64 m2, .int .i64 m3, .int .i64 m4, .string m5] 62)).grownBy w5 (some (w.heap.size + 2)) := gr_row2 (by first | exact B4 | exact gr_alloc B4 _) b2; have A5 : w.grownBy w5 (some (w.heap.size + 2)) := gr_row2 (by first | exact A4 | exact gr_alloc A4 _) b2; obtain ⟨p0, p1, p2, p3, p4, p5⟩ := BOXF.out _ _ (by omega) B5))
  all_goals (have HB1 := hide b1; have HA5 := hide (gr_fresh A5 (by omega)); clear b1 b2 a1 a2 A4 A5 B4 B5)
  all_goals go_wp2
  all_goals go_ret
  all_goals exact lend_end HB1.out HA5.out hn HZ.out HMK.out
end Go.Proofs.YtfhamfgcjdhmdaaGreatDoor

namespace Go.Proofs.YtfhamfgcjdhmdaaGreatDoor
open Go.RowKit
set_option linter.unusedVariables false
set_option linter.unusedSimpArgs false

/-- Parts stand where another block was written. -/
theorem PartsAt.keepRow {w w' : World} {g n cap r : Nat} {ps : List Prt} (h : PartsAt w (.slice (some ⟨g, 0, none⟩) n cap) ps) (hg : w.grownBy w' (some r)) (hr : r ≠ g) : PartsAt w' (.slice (some ⟨g, 0, none⟩) n cap) ps := by
  obtain ⟨ao, c, e, h1, h2, h3⟩ := h
  refine ⟨ao, c, e, h1, h2, fun i hi => ?_⟩
  obtain ⟨b, off, e2, hb, c0, c1, c2, c3, c4, c5, c6⟩ := h3 i hi
  simp only [Value.slice.injEq] at e
  obtain ⟨e, _, _⟩ := e
  rw [e2] at e
  simp only [Option.some.injEq, Addr.mk.injEq, and_true] at e
  have hne : some b ≠ some r := by intro x; have := Option.some.inj x; omega
  exact ⟨b, off, e2, Nat.lt_of_lt_of_le hb hg.size, hg.cell c0 hne, hg.cell c1 hne, hg.cell c2 hne, hg.cell c3 hne, hg.cell c4 hne, hg.cell c5 hne, c6⟩

/-- The part that is in no net. -/
def Mk : Prt := ⟨-9, 0, 0, 0, 0, ⟨#[109, 97, 114, 107]⟩⟩

/-- The package's mark stands. -/
structure MarkAt (w : World) : Prop where
  c0 : w.cell? ⟨2, 0, none⟩ = some (.int .i64 (-9))
  c1 : w.cell? ⟨2, 1, none⟩ = some (.int .i64 0)
  c2 : w.cell? ⟨2, 2, none⟩ = some (.int .i64 0)
  c3 : w.cell? ⟨2, 3, none⟩ = some (.int .i64 0)
  c4 : w.cell? ⟨2, 4, none⟩ = some (.int .i64 0)
  c5 : w.cell? ⟨2, 5, none⟩ = some (.string ⟨#[109, 97, 114, 107]⟩)

theorem MarkAt.keep {w w' : World} (h : MarkAt w) (hg : w.grownBy w' none) : MarkAt w' :=
  ⟨hg.cell h.c0 (by simp), hg.cell h.c1 (by simp), hg.cell h.c2 (by simp), hg.cell h.c3 (by simp), hg.cell h.c4 (by simp), hg.cell h.c5 (by simp)⟩

theorem MarkAt.lt {w : World} (h : MarkAt w) : 2 < w.heap.size := by
  rcases Nat.lt_or_ge 2 w.heap.size with h1 | h1
  · exact h1
  · exfalso
    have h2 := h.c0
    simp [World.cell?, Array.getElem?_eq_none h1] at h2

/-- What Own answers. -/
def OwnE (w : World) (nodes : Int) (ps : List Prt) (e : Ending) (w' : World) : Prop :=
  ∃ g, e = .returned (.agg #[.int .i64 nodes, .slice (some ⟨g, 0, none⟩) ps.length (ps.length + 3)]) ∧ PartsAt w' (.slice (some ⟨g, 0, none⟩) (ps.length + 3) (ps.length + 3)) (ps ++ [Mk, Mk, Mk]) ∧ w.heap.size ≤ g ∧ w.grownBy w' none

set_option maxHeartbeats 8000000 in
set_option maxRecDepth 10000 in
theorem own_at (nodes : Int) (pv : Value) (ps : List Prt) (w : World) (hM : MarkAt w) (hp : PartsAt w pv ps) (hnil : ∀ c, pv = .slice none 0 c → c = 0) (hn : ps.length ≤ 100000000) :
    Calls Tryz.prog 15 #[.agg #[.int .i64 nodes, pv]] w fun e w' => OwnE w nodes ps e w' := by
  have HP := hide hp
  have HM := hide hM
  have HNIL := hide hnil
  obtain ⟨ao, cap, rfl, h1, h2, h3⟩ := hp
  clear h3 hM hnil
  obtain ⟨W, hW⟩ : ∃ W, W = (w.alloc (Obj.cells #[.int .i64 nodes, .slice ao ps.length cap] 38)).alloc (Obj.cells #[.int .i64 0, .slice none 0 0] 38) := ⟨_, rfl⟩
  have GW : Hid (w.grownBy W none) := by rw [hW]; exact gr_alloc (gr_alloc (gr_refl _ _) _) _
  have CELLS : Hid (∀ wx, W.grownBy wx none → wx.cell? ⟨w.heap.size, 0, none⟩ = some (.int .i64 nodes) ∧ wx.cell? ⟨w.heap.size, 1, none⟩ = some (.slice ao ps.length cap) ∧ wx.cell? ⟨w.heap.size + 1, 0, none⟩ = some (.int .i64 0) ∧ wx.cell? ⟨w.heap.size + 1, 1, none⟩ = some (.slice none 0 0) ∧ ∀ i, wx.frozen? ⟨w.heap.size + 1, i, none⟩ = false) := by
    intro wx hg
    have e0 : wx.heap[w.heap.size]? = some (Obj.cells #[.int .i64 nodes, .slice ao ps.length cap] 38 (0, 0)) := by
      rw [hg.block w.heap.size (by rw [hW]; simp; omega) (by simp), hW]
      show ((w.heap.push _).push _)[w.heap.size]? = _
      rw [Array.getElem?_push_lt (by simp), Array.getElem_push_eq]
    have e1 : wx.heap[w.heap.size + 1]? = some (Obj.cells #[.int .i64 0, .slice none 0 0] 38 (0, 0)) := by
      rw [hg.block (w.heap.size + 1) (by rw [hW]; simp) (by simp), hW]
      exact push1
    refine ⟨?_, ?_, ?_, ?_, fun i => ?_⟩ <;> simp [World.cell?, World.frozen?, e0, e1]
  obtain ⟨b0, b1, r0, r1, rf⟩ := CELLS.out W (gr_refl _ _)
  obtain ⟨k0, k1, k2, k3, k4, k5⟩ := HM.out.keep GW.out
  have HEX : Hid (W.heap.size = w.heap.size + 2) := by show _ = _; rw [hW]; simp
  have hlt : 2 < w.heap.size := HM.out.lt
  have hne1 : ¬ w.heap.size + 1 = 2 := by omega
  have hne2 : ¬ 2 = w.heap.size + 1 := by omega
  clear rf
  go_enter Tryz.func15, Tryz.ntmps15
  go_wp2
  rw [← hW]
  clear hW
  go_region_held3 (fun w' => w'.cell? ⟨w.heap.size, 0, none⟩ = some (.int .i64 nodes) ∧ w'.cell? ⟨w.heap.size, 1, none⟩ = some (.slice ao ps.length cap) ∧ w'.cell? ⟨2, 0, none⟩ = some (.int .i64 (-9)) ∧ w'.cell? ⟨2, 1, none⟩ = some (.int .i64 0) ∧ w'.cell? ⟨2, 2, none⟩ = some (.int .i64 0) ∧ w'.cell? ⟨2, 3, none⟩ = some (.int .i64 0) ∧ w'.cell? ⟨2, 4, none⟩ = some (.int .i64 0) ∧ w'.cell? ⟨2, 5, none⟩ = some (.string ⟨#[109, 97, 114, 107]⟩)) (go_keep)
    (first | (go_at_call 78; refine (lend_at _ ps Mk _ (HP.out.keep (gr_none GW.out (gr_drew (gr_refl _ _)))) HNIL.out hn (by decide)).mono ?_; rintro e w4 ⟨g, rfl, j1, j2, j3⟩; have G4 : W.grownBy w4 none := gr_none (gr_drew (gr_refl _ _)) j3; have s0 := (CELLS.out w4 G4).1; have s1 := (CELLS.out w4 G4).2.1; have t0 := (CELLS.out w4 G4).2.2.1; have t1 := (CELLS.out w4 G4).2.2.2.1; have tf0 := (CELLS.out w4 G4).2.2.2.2 0; have tf1 := (CELLS.out w4 G4).2.2.2.2 1; obtain ⟨q0, q1, q2, q3, q4, q5⟩ := HM.out.keep (gr_none GW.out G4)))
  have J1 := hide j1
  have G5 := hide (gr_none GW.out G4)
  have hg2 : w.heap.size + 2 ≤ g := by have := HEX.out; have : W.heap.size ≤ g := j2; omega
  clear j1 j2 j3 G4
  go_wp2
  refine bodyPost_ret (v := .agg #[.int .i64 nodes, .slice (some ⟨g, 0, none⟩) ps.length (ps.length + 3)]) (by simp [results, Tryz.results15, go_sem, t0, t1]) rfl ?_
  have kS : w4.grownBy ((w4.setCell ⟨w.heap.size + 1, 0, none⟩ (.int .i64 nodes)).setCell ⟨w.heap.size + 1, 1, none⟩ (.slice (some ⟨g, 0, none⟩) ps.length (ps.length + 3))) (some (w.heap.size + 1)) := gr_row (gr_row (gr_refl _ _) _ _ _ rfl) _ _ _ rfl
  exact ⟨g, rfl, J1.out.keepRow kS (by omega), by omega, gr_set (gr_set G5.out _ _ (by simp)) _ _ (by simp)⟩
end Go.Proofs.YtfhamfgcjdhmdaaGreatDoor

namespace Go.Proofs.YtfhamfgcjdhmdaaGreatDoor
open Go.RowKit
set_option linter.unusedVariables false
set_option linter.unusedSimpArgs false

/-- Two parts that are the same. -/
theorem part_same (a b c d e : Int) (v : ByteArray) (W : World) : (binOp .neq 62 (.agg #[.int .i64 a, .int .i64 b, .int .i64 c, .int .i64 d, .int .i64 e, .string v]) (.agg #[.int .i64 a, .int .i64 b, .int .i64 c, .int .i64 d, .int .i64 e, .string v])).run Tryz.prog W = .ok (.bool false) W := by
  go_simp

theorem still_less (n i : Nat) (h : i < n + 3) : n + 3 - (intOf (Value.int IntKind.i64 ((i : Int) + 1))).toNat < n + 3 - (intOf (Value.int IntKind.i64 (i : Int))).toNat := by
  simp only [intOf]
  omega

def StillR (w : World) (n : Nat) (v : Value) (wr : World) : Prop := ∃ i : Nat, i ≤ n + 3 ∧ v = .int .i64 i ∧ w.grownBy wr none

set_option maxHeartbeats 8000000 in
set_option maxRecDepth 10000 in
theorem still_at (g : Nat) (pv : Value) (ps : List Prt) (w : World) (hp : PartsAt w pv ps) (ho : PartsAt w (.slice (some ⟨g, 0, none⟩) (ps.length + 3) (ps.length + 3)) (ps ++ [Mk, Mk, Mk])) (hn : ps.length ≤ 100000000) :
    Calls Tryz.prog 88 #[.slice (some ⟨g, 0, none⟩) ps.length (ps.length + 3), pv, Mk.val] w fun e w' => e = .returned (.bool true) ∧ w.grownBy w' none := by
  have HP := hide hp
  have HO := hide ho
  obtain ⟨ao, cap, rfl, h1, h2, h3⟩ := hp
  unfold maxLen at h2
  have OC : Hid (∀ i (h : i < (ps ++ [Mk, Mk, Mk]).length), w.cell? ⟨g, i * 6, none⟩ = some (.int .i64 (ps ++ [Mk, Mk, Mk])[i].kind) ∧ w.cell? ⟨g, i * 6 + 1, none⟩ = some (.int .i64 (ps ++ [Mk, Mk, Mk])[i].a) ∧ w.cell? ⟨g, i * 6 + 2, none⟩ = some (.int .i64 (ps ++ [Mk, Mk, Mk])[i].b) ∧ w.cell? ⟨g, i * 6 + 3, none⟩ = some (.int .i64 (ps ++ [Mk, Mk, Mk])[i].c) ∧ w.cell? ⟨g, i * 6 + 4, none⟩ = some (.int .i64 (ps ++ [Mk, Mk, Mk])[i].d) ∧ w.cell? ⟨g, i * 6 + 5, none⟩ = some (.string (ps ++ [Mk, Mk, Mk])[i].v)) := by
    intro i hi
    obtain ⟨ao', c', e, _, _, k3⟩ := ho
    obtain ⟨b, off, e2, hb, c0, c1, c2, c3, c4, c5, c6⟩ := k3 i hi
    simp only [Value.slice.injEq] at e
    obtain ⟨e, _, _⟩ := e
    rw [e2] at e
    simp only [Option.some.injEq, Addr.mk.injEq, and_true] at e
    obtain ⟨rfl, rfl⟩ := e
    simp only [Nat.zero_add] at c0 c1 c2 c3 c4 c5
    exact ⟨c0, c1, c2, c3, c4, c5⟩
  have HPC := hide h3
  clear h3 ho
  have hmv : Mk.val = .agg #[.int .i64 (-9), .int .i64 0, .int .i64 0, .int .i64 0, .int .i64 0, .string ⟨#[109, 97, 114, 107]⟩] := rfl
  rw [hmv]
  clear hmv
  have BX : Hid (∀ wx, (w.alloc (Obj.cells #[.int .i64 (-9), .int .i64 0, .int .i64 0, .int .i64 0, .int .i64 0, .string ⟨#[109, 97, 114, 107]⟩] 62)).grownBy wx none → wx.cell? ⟨w.heap.size, 0, none⟩ = some (.int .i64 (-9)) ∧ wx.cell? ⟨w.heap.size, 1, none⟩ = some (.int .i64 0) ∧ wx.cell? ⟨w.heap.size, 2, none⟩ = some (.int .i64 0) ∧ wx.cell? ⟨w.heap.size, 3, none⟩ = some (.int .i64 0) ∧ wx.cell? ⟨w.heap.size, 4, none⟩ = some (.int .i64 0) ∧ wx.cell? ⟨w.heap.size, 5, none⟩ = some (.string ⟨#[109, 97, 114, 107]⟩)) := by
    intro wx hg
    have e : wx.heap[w.heap.size]? = some (Obj.cells #[.int .i64 (-9), .int .i64 0, .int .i64 0, .int .i64 0, .int .i64 0, .string ⟨#[109, 97, 114, 107]⟩] 62 (0, 0)) := by
      rw [hg.block w.heap.size (by simp) (by simp)]
      exact heap_alloc_new w _
    refine ⟨?_, ?_, ?_, ?_, ?_, ?_⟩ <;> simp [World.cell?, e]
  obtain ⟨W, hW⟩ : ∃ W, W = w.alloc (Obj.cells #[.int .i64 (-9), .int .i64 0, .int .i64 0, .int .i64 0, .int .i64 0, .string ⟨#[109, 97, 114, 107]⟩] 62) := ⟨_, rfl⟩
  have GW : Hid (w.grownBy W none) := by rw [hW]; exact gr_alloc (gr_refl _ _) _
  have HSZ : Hid (w.heap.size < W.heap.size) := by show _ < _; rw [hW]; simp
  rw [← hW] at BX
  go_enter Tryz.func88, Tryz.ntmps88
  go_wp2
  rw [← hW]
  clear hW
  go_loopw [17] (fun v wr => Hid (StillR W ps.length v wr)) (fun v _ => ps.length + 3 - (intOf v).toNat)
  case atStart => exact ⟨0, by omega, rfl, gr_refl _ _⟩
  case round =>
    obtain ⟨i, hi, rfl, hgr⟩ := hrel.out
    have HGR := hide hgr
    clear hrel hgr
    by_cases hlt : i < ps.length + 3
    · have hil : i < (ps ++ [Mk, Mk, Mk]).length := by simp; omega
      obtain ⟨c0, c1, c2, c3, c4, c5⟩ := OC.out i hil
      have gw := gr_none GW.out HGR.out
      have d0 := gw.cell c0 (by simp)
      have d1 := gw.cell c1 (by simp)
      have d2 := gw.cell c2 (by simp)
      have d3 := gw.cell c3 (by simp)
      have d4 := gw.cell c4 (by simp)
      have d5 := gw.cell c5 (by simp)
      obtain ⟨m0, m1, m2, m3, m4, m5⟩ := BX.out wr HGR.out
      clear c0 c1 c2 c3 c4 c5
      by_cases hip : i < ps.length
      · have eg : (ps ++ [Mk, Mk, Mk])[i] = ps[i] := List.getElem_append_left hip
        rw [eg] at d0 d1 d2 d3 d4 d5
        obtain ⟨b, off, rfl, hb, e0, e1, e2, e3, e4, e5, e6⟩ := HPC.out i hip
        have f0 := gw.cell e0 (by simp)
        have f1 := gw.cell e1 (by simp)
        have f2 := gw.cell e2 (by simp)
        have f3 := gw.cell e3 (by simp)
        have f4 := gw.cell e4 (by simp)
        have f5 := gw.cell e5 (by simp)
        obtain ⟨p0, p1, p2, p3, p4, p5, hpe⟩ : ∃ a b c d e v, ps[i] = ⟨a, b, c, d, e, v⟩ := ⟨_, _, _, _, _, _, rfl⟩
        rw [hpe] at d0 d1 d2 d3 d4 d5 f0 f1 f2 f3 f4 f5
        have hsame := part_same p0 p1 p2 p3 p4 p5
        have hbw : b < wr.heap.size := Nat.lt_of_lt_of_le hb gw.size
        have hd : decide (ps.length ≤ i) = false := decide_eq_false (by omega)
        clear e0 e1 e2 e3 e4 e5 e6 eg hpe gw HPC OC
        obtain ⟨W2, hW2⟩ : ∃ W2, W2 = wr.alloc (Obj.cells #[.int .i64 p0, .int .i64 p1, .int .i64 p2, .int .i64 p3, .int .i64 p4, .string p5] 62) := ⟨_, rfl⟩
        have g2 : wr.grownBy W2 none := by rw [hW2]; exact gr_alloc (gr_refl _ _) _
        have xx : W2.heap[wr.heap.size]? = some (Obj.cells #[.int .i64 p0, .int .i64 p1, .int .i64 p2, .int .i64 p3, .int .i64 p4, .string p5] 62 (0, 0)) := by rw [hW2]; exact heap_alloc_new wr _
        have x0 : W2.cell? ⟨wr.heap.size, 0, none⟩ = some (.int .i64 p0) := by simp [World.cell?, xx]
        have x1 : W2.cell? ⟨wr.heap.size, 1, none⟩ = some (.int .i64 p1) := by simp [World.cell?, xx]
        have x2 : W2.cell? ⟨wr.heap.size, 2, none⟩ = some (.int .i64 p2) := by simp [World.cell?, xx]
        have x3 : W2.cell? ⟨wr.heap.size, 3, none⟩ = some (.int .i64 p3) := by simp [World.cell?, xx]
        have x4 : W2.cell? ⟨wr.heap.size, 4, none⟩ = some (.int .i64 p4) := by simp [World.cell?, xx]
        have x5 : W2.cell? ⟨wr.heap.size, 5, none⟩ = some (.string p5) := by simp [World.cell?, xx]
        have y0 := g2.cell f0 (by simp)
        have y1 := g2.cell f1 (by simp)
        have y2 := g2.cell f2 (by simp)
        have y3 := g2.cell f3 (by simp)
        have y4 := g2.cell f4 (by simp)
        have y5 := g2.cell f5 (by simp)
        have G2 := hide (gr_none HGR.out g2)
        clear xx g2
        go_wp2
        rw [← hW2]
        clear hW2
        go_quiet (fail)
        go_wp2
        refine ⟨⟨i + 1, hlt, congrArg (Value.int .i64) (Int.natCast_add i 1).symm, gr_drewN G2.out _⟩, ?_⟩
        exact still_less ps.length i hlt
      · have eg : (ps ++ [Mk, Mk, Mk])[i] = Mk := by
          rw [List.getElem_append_right (by omega)]
          have hk : i - ps.length < 3 := by omega
          have hall : ∀ p ∈ [Mk, Mk, Mk], p = Mk := by intro p hp; simpa using hp
          exact hall _ (List.getElem_mem _)
        rw [eg] at d0 d1 d2 d3 d4 d5
        simp only [Mk] at d0 d1 d2 d3 d4 d5
        have hsame := part_same (-9) 0 0 0 0 ⟨#[109, 97, 114, 107]⟩
        have hd : decide (ps.length ≤ i) = true := decide_eq_true (by omega)
        have hww : w.heap.size < wr.heap.size := Nat.lt_of_lt_of_le (by have := HSZ.out; omega) HGR.out.size
        clear eg gw HPC OC
        obtain ⟨W2, hW2⟩ : ∃ W2, W2 = wr.alloc (Obj.cells #[.int .i64 (-9), .int .i64 0, .int .i64 0, .int .i64 0, .int .i64 0, .string ⟨#[109, 97, 114, 107]⟩] 62) := ⟨_, rfl⟩
        have g2 : wr.grownBy W2 none := by rw [hW2]; exact gr_alloc (gr_refl _ _) _
        have xx : W2.heap[wr.heap.size]? = some (Obj.cells #[.int .i64 (-9), .int .i64 0, .int .i64 0, .int .i64 0, .int .i64 0, .string ⟨#[109, 97, 114, 107]⟩] 62 (0, 0)) := by rw [hW2]; exact heap_alloc_new wr _
        have x0 : W2.cell? ⟨wr.heap.size, 0, none⟩ = some (.int .i64 (-9)) := by simp [World.cell?, xx]
        have x1 : W2.cell? ⟨wr.heap.size, 1, none⟩ = some (.int .i64 0) := by simp [World.cell?, xx]
        have x2 : W2.cell? ⟨wr.heap.size, 2, none⟩ = some (.int .i64 0) := by simp [World.cell?, xx]
        have x3 : W2.cell? ⟨wr.heap.size, 3, none⟩ = some (.int .i64 0) := by simp [World.cell?, xx]
        have x4 : W2.cell? ⟨wr.heap.size, 4, none⟩ = some (.int .i64 0) := by simp [World.cell?, xx]
        have x5 : W2.cell? ⟨wr.heap.size, 5, none⟩ = some (.string ⟨#[109, 97, 114, 107]⟩) := by simp [World.cell?, xx]
        have y0 := g2.cell m0 (by simp)
        have y1 := g2.cell m1 (by simp)
        have y2 := g2.cell m2 (by simp)
        have y3 := g2.cell m3 (by simp)
        have y4 := g2.cell m4 (by simp)
        have y5 := g2.cell m5 (by simp)
        have G2 := hide (gr_none HGR.out g2)
        clear xx g2
        go_wp2
        rw [← hW2]
        clear hW2
        go_quiet (fail)
        go_wp2
        refine ⟨⟨i + 1, hlt, congrArg (Value.int .i64) (Int.natCast_add i 1).symm, gr_drewN G2.out _⟩, ?_⟩
        exact still_less ps.length i hlt
    · obtain rfl : i = ps.length + 3 := by omega
      go_wp2
      go_ret
      exact ⟨rfl, gr_none GW.out HGR.out⟩
end Go.Proofs.YtfhamfgcjdhmdaaGreatDoor

namespace Go.Proofs.YtfhamfgcjdhmdaaGreatDoor
open Go.RowKit
set_option linter.unusedVariables false
set_option linter.unusedSimpArgs false

set_option maxHeartbeats 4000000 in
set_option maxRecDepth 10000 in
theorem kept_at (nodes : Int) (g : Nat) (pv : Value) (ps : List Prt) (w : World) (hM : MarkAt w) (hp : PartsAt w pv ps) (ho : PartsAt w (.slice (some ⟨g, 0, none⟩) (ps.length + 3) (ps.length + 3)) (ps ++ [Mk, Mk, Mk])) (hn : ps.length ≤ 100000000) :
    Calls Tryz.prog 23 #[.agg #[.int .i64 nodes, .slice (some ⟨g, 0, none⟩) ps.length (ps.length + 3)], .agg #[.int .i64 nodes, pv]] w fun e w' => e = .returned (.bool true) ∧ w.grownBy w' none := by
  have HP := hide hp
  have HO := hide ho
  have HM := hide hM
  obtain ⟨ao, cap, rfl, h1, h2, h3⟩ := hp
  clear h3 ho hM
  obtain ⟨W, hW⟩ : ∃ W, W = (w.alloc (Obj.cells #[.int .i64 nodes, .slice (some ⟨g, 0, none⟩) ps.length (ps.length + 3)] 38)).alloc (Obj.cells #[.int .i64 nodes, .slice ao ps.length cap] 38) := ⟨_, rfl⟩
  have GW : Hid (w.grownBy W none) := by rw [hW]; exact gr_alloc (gr_alloc (gr_refl _ _) _) _
  have e0 : W.heap[w.heap.size]? = some (Obj.cells #[.int .i64 nodes, .slice (some ⟨g, 0, none⟩) ps.length (ps.length + 3)] 38 (0, 0)) := by
    rw [hW]
    show ((w.heap.push _).push _)[w.heap.size]? = _
    rw [Array.getElem?_push_lt (by simp), Array.getElem_push_eq]
  have e1 : W.heap[w.heap.size + 1]? = some (Obj.cells #[.int .i64 nodes, .slice ao ps.length cap] 38 (0, 0)) := by
    rw [hW]
    exact push1
  have b0 : W.cell? ⟨w.heap.size, 0, none⟩ = some (.int .i64 nodes) := by simp [World.cell?, e0]
  have b1 : W.cell? ⟨w.heap.size, 1, none⟩ = some (.slice (some ⟨g, 0, none⟩) ps.length (ps.length + 3)) := by simp [World.cell?, e0]
  have c0 : W.cell? ⟨w.heap.size + 1, 0, none⟩ = some (.int .i64 nodes) := by simp [World.cell?, e1]
  have c1 : W.cell? ⟨w.heap.size + 1, 1, none⟩ = some (.slice ao ps.length cap) := by simp [World.cell?, e1]
  obtain ⟨k0, k1, k2, k3, k4, k5⟩ := HM.out.keep (gr_alloc (gr_alloc (gr_refl w none) (Obj.cells #[.int .i64 nodes, .slice (some ⟨g, 0, none⟩) ps.length (ps.length + 3)] 38)) (Obj.cells #[.int .i64 nodes, .slice ao ps.length cap] 38))
  clear e0 e1
  go_enter Tryz.func23, Tryz.ntmps23
  go_wp2_with fail
  rw [← hW]
  refine (still_at g _ ps W (HP.out.keep GW.out) (HO.out.keep GW.out) hn).mono ?_
  rintro e w4 ⟨rfl, k⟩
  have K := hide (gr_none GW.out k)
  clear k
  go_wp2
  go_ret
  exact ⟨rfl, K.out⟩
end Go.Proofs.YtfhamfgcjdhmdaaGreatDoor
