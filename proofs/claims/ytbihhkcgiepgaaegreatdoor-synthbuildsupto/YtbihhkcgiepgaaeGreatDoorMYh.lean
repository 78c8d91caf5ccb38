/- voltaicsame: Lend of texts, Still; Nets, where they are the same. -/
import Derived.Test.YtbihhkcgiepgaaeGreatDoorTEqu
import Derived.Test.YtbihhkcgiepgaaeGreatDoorMYg
import Derived.Deep.RegionHeld3
import Derived.Test.YtbihhkcgiepgaaeGreatDoorMYc
namespace Go.Proofs.YtbihhkcgiepgaaeGreatDoor
open Go.RowKit
set_option linter.unusedVariables false
set_option linter.unusedSimpArgs false

def mrk : ByteArray := ⟨#[109, 97, 114, 107]⟩

theorem wpList_append_none {P : Program} (W : World) {ops : Array Oper} {rest : List Oper} {o : Oper} {a : Act} {Q : Exit → Act → World → Prop}
    (hg : o.guard = none) (s x : Operand) (t : TypeId) (ho : o.op = .call { callee := .builtin .append, args := #[s, x], argTypes := #[t, t] })
    (e : TypeId) (i : TypeInfo) (h1 : P.underlying t = some (.slice e)) (hi : P.info? e = some i) (ad : Addr) (c pc : Nat) (hs : a.eval s = .slice (some ad) 0 c) (hx : a.eval x = .slice none 0 pc)
    (hK : ∀ w', w' = W → wpList P ops Q rest (a.put o.dst (.slice (some ad) 0 c)) w') : wpList P ops Q (o :: rest) a W := by
  have hr : (Builtin.append_ #[t, t] o.type #[.slice (some ad) 0 c, .slice none 0 pc]).run P W = .ok (.slice (some ad) 0 c) W := by
    simp [Builtin.append_, run_underlying h1, sizeOf, typeInfo, hi, Builtin.lenOf, Builtin.firstCells, storeCells]
  refine wpList_plain hg fun _ hK2 => ?_
  unfold Oper.wp execOp
  simp only [ho, resolve, invoke, builtin, Sem.run_bind, Sem.run_pure, Result.andThen_ok, List.map_toArray, List.map_cons, List.map_nil, hs, hx, hr]
  exact hK2 _ _ (hK W rfl)

/-- What Lend answers. -/
def LenE (w : World) (ls : List ByteArray) (e : Ending) (w' : World) : Prop :=
  ∃ g cap, e = .returned (.slice (some ⟨g, 0, none⟩) ls.length cap) ∧ ls.length + 3 ≤ cap ∧ cap ≤ maxLen ∧ RowG sv w' (.slice (some ⟨g, 0, none⟩) (ls.length + 3) cap) (ls ++ [mrk, mrk, mrk]) ∧ w.grownBy w' none

set_option maxHeartbeats 4000000 in
set_option maxRecDepth 10000 in
theorem lendQ_at (v : Value) (ls : List ByteArray) (w : World) (hv : RowG sv w v ls) (hnil : ∀ c, v = .slice none 0 c → c = 0) (hn : ls.length ≤ 100000000) :
    Calls Tryz.prog 29 #[v, .string mrk] w fun e w' => LenE w ls e w' := by
  have HV := hide hv
  obtain ⟨ao, cap, rfl, h1, h2, h3⟩ := hv
  obtain ⟨i0, hi, hz0, hz1, hz2⟩ := info_parts Tryz.infoQ
  obtain ⟨n, hnn⟩ : ∃ n, n = ls.length := ⟨_, rfl⟩
  have HNN := hide hnn
  unfold maxLen at h2
  obtain ⟨mc, hmc⟩ : ∃ mc, mc = madeCells (sv ⟨#[]⟩).cells ((n + 3) * 1) := ⟨_, rfl⟩
  have hms : Hid (mc.size = (n + 3) * 1) := by show _ = _; rw [hmc, size_madeCells]
  rw [← hnn] at h1 hn hnil ⊢
  have hmk1 : ∀ wx : World, (Instr.makeSlice 22 (.int .i64 0) (.int .i64 ((n : Int) + 3))).run Tryz.prog wx = .ok (.slice (some ⟨wx.heap.size, 0, none⟩) 0 (n + 3)) (wx.alloc (.cells mc 24)) := by
    intro wx
    have := run_make (P := Tryz.prog) wx 22 24 i0 _ Tryz.underlying22 hi hz0 .i64 .i64 0 ((n : Int) + 3) (by omega) (by omega) (by rw [hz2]; omega) (by omega)
    rw [this, hz1, hmc]
    have e : ((n : Int) + 3).toNat = n + 3 := by omega
    rw [e]
    rfl
  clear hmc hnn
  cases ao with
  | none =>
    have h0 : n = 0 := by
      rcases Nat.eq_zero_or_pos n with h | h
      · exact h
      · obtain ⟨_, _, e, _⟩ := h3 0 (by rw [← HNN.out]; exact h)
        cases e
    subst h0
    have hl0 : ls = [] := List.eq_nil_of_length_eq_zero HNN.out.symm
    subst hl0
    have hc0 := hnil cap rfl
    subst hc0
    clear h3 hnil
    have hmk2 : ∀ wx : World, (Instr.makeSlice 22 (.int .i64 0) (.int .i64 3)).run Tryz.prog wx = .ok (.slice (some ⟨wx.heap.size, 0, none⟩) 0 3) (wx.alloc (.cells mc 24)) := hmk1
    go_enter Tryz.func29, Tryz.ntmps29
    have O1 : Hid (OwnG sv 24 (w.alloc (Obj.cells mc 24)) w.heap.size (.slice (some ⟨w.heap.size, 0, none⟩) 0 3) []) :=
      ⟨by simp, .inr ⟨w.heap.size, 3, mc, rfl, Nat.le_refl _, heap_alloc_new w _, Nat.zero_le _, by unfold maxLen; omega, hms.out, by simp⟩⟩
    have G1 : Hid (w.grownBy (w.alloc (Obj.cells mc 24)) none) := gr_alloc (gr_refl _ _) _
    have hsz1 : (w.alloc (Obj.cells mc 24)).heap.size = w.heap.size + 1 := by simp
    have hs1 := G1.out.size
    have GA : Hid ((w.alloc (Obj.cells mc 24)).grownBy ((w.alloc (Obj.cells mc 24)).alloc (Obj.cells #[sv mrk, sv mrk, sv mrk] 24)) none) := gr_alloc (gr_refl _ _) _
    have OA := hide (O1.out.keep0 GA.out)
    go_wp2_with (at_builtin; refine wpList_append_own _ rfl _ _ 22 rfl w.heap.size 24 i0 _ 1 16 Tryz.underlying22 hi hz0 hz1 hz2 rfl (by decide) _ 0 (([] : List ByteArray).map sv) rfl ?c0 ⟨w.heap.size + 1, 0, none⟩ 3 3 [sv mrk, sv mrk, sv mrk] rfl rfl ?c2 ?c3 ?c4 ?c5 ?c6 ?_)
    case c0 => exact OA.out
    case c2 => exact World.news_of_block (cs := #[sv mrk, sv mrk, sv mrk]) (t := 24) (fr := (0, 0)) (by have h := heap_alloc_new (w.alloc (Obj.cells mc 24)) (Obj.cells #[sv mrk, sv mrk, sv mrk] 24); rw [hsz1] at h; exact h)
    case c3 =>
      intro u hu
      simp only [List.mem_cons, List.not_mem_nil, or_false, or_self] at hu
      subst hu
      rfl
    case c4 => unfold maxLen; omega
    case c5 => omega
    case c6 => simp; omega
    intro v2 w2 hown hgr _
    have FR := OA.out.fresh
    have G2 : Hid (w.grownBy w2 none) := gr_trans (r1 := none) (gr_none G1.out GA.out) hgr (fun _ _ e => e) (fun b hb e => by have := (FR b e.symm).1; omega)
    have O2 : Hid (OwnG sv 24 w2 w.heap.size v2 (([] : List ByteArray) ++ [mrk, mrk, mrk])) := by
      unfold OwnG
      rw [List.length_append, List.map_append]
      exact hown
    obtain ⟨g, c2, e2, hc2, hm2⟩ : ∃ g c2, v2 = .slice (some ⟨g, 0, none⟩) (0 + 3) c2 ∧ 0 + 3 ≤ c2 ∧ c2 ≤ maxLen := by
      rcases O2.out.2 with ⟨e, h0⟩ | ⟨g, cap', cur, e, hb, hh, k1, k2, k3, k4⟩
      · rw [List.length_append] at h0
        simp at h0
      · rw [List.length_append] at e k1
        exact ⟨g, cap', by rw [e]; rfl, by simpa using k1, k2⟩
    subst e2
    have hm3 := hm2
    unfold maxLen at hm2
    clear hown hgr FR
    go_wp2
    go_ret
    refine ⟨g, c2, rfl, hc2, hm3, ?_, G2.out⟩
    have := O2.out.row
    exact this
  | some ad =>
    have HSRC : Hid (∀ j u, (ls.map sv)[j]? = some u → w.cell? (ad.add j) = some u) := by
      intro j u hj
      have hjl : j < ls.length := by
        have := (List.getElem?_eq_some_iff.1 hj).1
        rw [List.length_map] at this
        exact this
      obtain ⟨b, off, e, _, hc⟩ := h3 j hjl
      simp only [Option.some.injEq] at e
      subst e
      rw [List.getElem?_map, List.getElem?_eq_getElem hjl] at hj
      simp only [Option.map_some, Option.some.injEq] at hj
      subst hj
      rw [show (⟨b, off, none⟩ : Addr).add j = ⟨b, off + j, none⟩ from by unfold Addr.add; split <;> simp_all]
      exact hc
    clear h3 hnil
    go_enter Tryz.func29, Tryz.ntmps29
    go_wp2_with (at_builtin; refine wpList_append_own _ rfl _ _ 22 rfl w.heap.size 24 i0 _ 1 16 Tryz.underlying22 hi hz0 hz1 hz2 rfl (by decide) _ 0 [] rfl ?c0 ad n cap (ls.map sv) rfl ?c1 ?c2 ?c3 ?c4 ?c5 ?c6 ?_)
    case c0 => exact ⟨by simp, .inr ⟨w.heap.size, n + 3, mc, rfl, Nat.le_refl _, heap_alloc_new w _, Nat.zero_le _, by unfold maxLen; omega, hms.out, by simp⟩⟩
    case c1 => rw [List.length_map, HNN.out, Nat.mul_one]
    case c2 =>
      intro j u hj
      exact (World.grownBy_alloc w (Obj.cells mc 24) none).cell (HSRC.out j u hj) (by simp)
    case c3 =>
      intro u hu
      obtain ⟨u', _, rfl⟩ := List.mem_map.1 hu
      rfl
    case c4 => unfold maxLen; omega
    case c5 => omega
    case c6 => simp
    intro v1 w1 hown hgr _
    have O1 : Hid (OwnG sv 24 w1 w.heap.size v1 ls) := by
      unfold OwnG
      rw [← HNN.out]
      first | exact hown | (rw [Nat.zero_add, List.nil_append] at hown; exact hown)
    have G1 : Hid (w.grownBy w1 none) := gr_trans (r1 := none) (World.grownBy_alloc w _ none) hgr (fun _ _ e => e) (fun b hb e => by simp [Value.ownBlock] at e; omega)
    clear hown hgr
    obtain ⟨oo, oc, eo⟩ := O1.out.shape
    subst eo
    rw [← HNN.out]
    rw [← HNN.out] at O1 
    have hs1 := G1.out.size
    have GA : Hid (w1.grownBy (w1.alloc (Obj.cells #[sv mrk, sv mrk, sv mrk] 24)) none) := gr_alloc (gr_refl _ _) _
    have OA := hide (O1.out.keep0 GA.out)
    go_wp2_with (at_builtin; refine wpList_append_own _ rfl _ _ 22 rfl w.heap.size 24 i0 _ 1 16 Tryz.underlying22 hi hz0 hz1 hz2 rfl (by decide) _ n (ls.map sv) rfl ?c0 ⟨w1.heap.size, 0, none⟩ 3 3 [sv mrk, sv mrk, sv mrk] rfl rfl ?c2 ?c3 ?c4 ?c5 ?c6 ?_)
    case c0 =>
      have := OA.out
      unfold OwnG at this
      rw [← HNN.out] at this
      exact this
    case c2 => exact World.news_of_block (cs := #[sv mrk, sv mrk, sv mrk]) (t := 24) (fr := (0, 0)) (heap_alloc_new w1 _)
    case c3 =>
      intro u hu
      simp only [List.mem_cons, List.not_mem_nil, or_false, or_self] at hu
      subst hu
      rfl
    case c4 => unfold maxLen; omega
    case c5 => omega
    case c6 => simp; omega
    intro v2 w2 hown hgr _
    have FR := OA.out.fresh
    have G2 : Hid (w.grownBy w2 none) := gr_trans (r1 := none) (gr_none G1.out GA.out) hgr (fun _ _ e => e) (fun b hb e => by have := (FR b e.symm).1; omega)
    have O2 : Hid (OwnG sv 24 w2 w.heap.size v2 (ls ++ [mrk, mrk, mrk])) := by
      unfold OwnG
      rw [List.length_append, List.map_append]
      rw [← HNN.out]
      exact hown
    obtain ⟨g, c2, e2, hc2, hm2⟩ : ∃ g c2, v2 = .slice (some ⟨g, 0, none⟩) (n + 3) c2 ∧ n + 3 ≤ c2 ∧ c2 ≤ maxLen := by
      rcases O2.out.2 with ⟨e, h0⟩ | ⟨g, cap', cur, e, hb, hh, k1, k2, k3, k4⟩
      · rw [List.length_append] at h0
        simp at h0
      · rw [List.length_append] at e k1
        exact ⟨g, cap', by rw [e]; rw [← HNN.out]; rfl, by rw [← HNN.out] at k1; exact k1, k2⟩
    subst e2
    have hm3 := hm2
    unfold maxLen at hm2
    clear hown hgr FR
    go_wp2
    go_ret
    refine ⟨g, c2, by rw [← HNN.out]; rfl, by rw [← HNN.out]; exact hc2, hm3, ?_, G2.out⟩
    have := O2.out.row
    rw [← HNN.out]
    exact this
end Go.Proofs.YtbihhkcgiepgaaeGreatDoor

namespace Go.Proofs.YtbihhkcgiepgaaeGreatDoor
open Go.RowKit
set_option linter.unusedVariables false
set_option linter.unusedSimpArgs false

def StlR (w : World) (n : Nat) (v : Value) (wr : World) : Prop := ∃ i : Nat, i ≤ n + 3 ∧ v = .int .i64 i ∧ w.grownBy wr none

set_option maxHeartbeats 4000000 in
set_option maxRecDepth 10000 in
theorem stillQ_at (g cap : Nat) (v : Value) (ls : List ByteArray) (w : World) (hv : RowG sv w v ls) (ho : RowG sv w (.slice (some ⟨g, 0, none⟩) (ls.length + 3) cap) (ls ++ [mrk, mrk, mrk])) (hn : ls.length ≤ 100000000) (hc : ls.length + 3 ≤ cap) (hm : cap ≤ maxLen) :
    Calls Tryz.prog 31 #[.slice (some ⟨g, 0, none⟩) ls.length cap, v, .string mrk] w fun e w' => e = .returned (.bool true) ∧ w.grownBy w' none := by
  obtain ⟨ao, vc, rfl, h1, h2, h3⟩ := hv
  have OC : Hid (∀ i (h : i < (ls ++ [mrk, mrk, mrk]).length), w.cell? ⟨g, i, none⟩ = some (sv (ls ++ [mrk, mrk, mrk])[i])) := by
    intro i hi
    obtain ⟨ao', c', e, _, _, k3⟩ := ho
    obtain ⟨b, off, e2, hb, c0⟩ := k3 i hi
    simp only [Value.slice.injEq] at e
    obtain ⟨e, _, _⟩ := e
    rw [e2] at e
    simp only [Option.some.injEq, Addr.mk.injEq, and_true] at e
    obtain ⟨rfl, rfl⟩ := e
    rw [Nat.zero_add] at c0
    exact c0
  have H3 := hide h3
  obtain ⟨n, hnn⟩ : ∃ n, n = ls.length := ⟨_, rfl⟩
  have HN := hide hnn
  rw [← hnn] at h1 hn hc ⊢
  unfold maxLen at h2 hm
  clear h3 ho hnn
  go_enter Tryz.func31, Tryz.ntmps31
  go_wp2
  go_loopw [17] (fun v wr => Hid (StlR w n v wr)) (fun v _ => n + 3 - (intOf v).toNat)
  case atStart => exact ⟨0, by omega, rfl, gr_refl _ _⟩
  case round =>
    obtain ⟨i, hi, rfl, g1⟩ := hrel.out
    have G1 := hide g1
    clear g1 hrel
    by_cases hlt : i < n + 3
    · have hlen : (ls ++ [mrk, mrk, mrk]).length = n + 3 := by rw [List.length_append, HN.out]; rfl
      have c0 := G1.out.cell (OC.out i (by rw [hlen]; exact hlt)) (by simp)
      by_cases hin : i < n
      · have hil : i < ls.length := by rw [← HN.out]; exact hin
        obtain ⟨b, off, e1, hb, c1'⟩ := H3.out i hil
        subst e1
        have c1 := G1.out.cell c1' (by simp)
        rw [List.getElem_append_left hil] at c0
        obtain ⟨x, hx⟩ : ∃ x, x = ls[i] := ⟨_, rfl⟩
        rw [← hx] at c0 c1
        unfold sv at c0 c1
        clear c1' hx hlen hil
        go_wp2
        go_roundw
        case rel => exact ⟨i + 1, by omega, by go_num, G1.out⟩
        case measure => simp [intOf]; omega
      · have e0 : (ls ++ [mrk, mrk, mrk])[i]'(by rw [hlen]; exact hlt) = mrk := by
          rw [List.getElem_append_right (by rw [← HN.out]; omega)]
          have hk : i - ls.length = 0 ∨ i - ls.length = 1 ∨ i - ls.length = 2 := by rw [← HN.out]; omega
          rcases hk with e | e | e <;> simp only [e] <;> rfl
        rw [e0] at c0
        unfold sv at c0
        have hni : ¬ ((i : Nat) : Int) < (n : Int) := by omega
        have hni2 : ((n : Nat) : Int) ≤ (i : Int) := by omega
        clear e0 hlen
        go_wp2
        go_roundw
        case rel => exact ⟨i + 1, by omega, by go_num, G1.out⟩
        case measure => simp [intOf]; omega
    · obtain rfl : i = n + 3 := by omega
      go_wp2
      go_ret
      exact ⟨rfl, G1.out⟩

theorem partSame (a b c d e : Int) (v : ByteArray) (W : World) : (binOp .neq 68 (.agg #[.int .i64 a, .int .i64 b, .int .i64 c, .int .i64 d, .int .i64 e, .string v]) (.agg #[.int .i64 a, .int .i64 b, .int .i64 c, .int .i64 d, .int .i64 e, .string v])).run Tryz.prog W = .ok (.bool false) W := by
  go_simp

set_option maxHeartbeats 4000000 in
set_option maxRecDepth 10000 in
/-- slices.Equal of parts that are the same. -/
theorem equalP_at (v1 v2 : Value) (ps : List Prt) (w : World) (h1 : PartsAt w v1 ps) (h2 : PartsAt w v2 ps) (hl : ps.length ≤ 100000) :
    Calls Tryz.prog 90 #[v1, v2] w fun e w' => e = .returned (.bool true) ∧ w.grownBy w' none := by
  obtain ⟨ao, cap, rfl, a1, a2, a3⟩ := h1
  obtain ⟨bo, cap2, rfl, b1, b2, b3⟩ := h2
  unfold maxLen at a2 b2
  have A3 := hide a3
  have B3 := hide b3
  obtain ⟨n, hn⟩ : ∃ n, n = ps.length := ⟨_, rfl⟩
  have HN := hide hn
  rw [← hn] at a1 b1 hl ⊢
  clear a3 b3 hn
  have hneq : (((n : Nat) : Int) != ((n : Nat) : Int)) = false := by simp
  have hsame := partSame
  go_enter Tryz.func90, Tryz.ntmps90
  go_wp2
  go_loopw [13] (fun v wr => ∃ i : Nat, i ≤ n ∧ v = .int .i64 i ∧ Hid (w.grownBy wr none)) (fun v _ => n - (intOf v).toNat)
  case atStart => exact ⟨0, by omega, rfl, gr_refl _ _⟩
  case round =>
    obtain ⟨i, hi, rfl, L2⟩ := hrel
    by_cases hlt : i < n
    · have hlt2 : i < ps.length := by rw [← HN.out]; exact hlt
      obtain ⟨b, off, rfl, hb, ca0, ca1, ca2, ca3, ca4, ca5, _⟩ := A3.out i hlt2
      obtain ⟨b', off', rfl, hb', cb0, cb1, cb2, cb3, cb4, cb5, _⟩ := B3.out i hlt2
      obtain ⟨x, hx⟩ : ∃ x, x = ps[i] := ⟨_, rfl⟩
      rw [← hx] at ca0 ca1 ca2 ca3 ca4 ca5 cb0 cb1 cb2 cb3 cb4 cb5
      obtain ⟨x0, x1, x2, x3, x4, x5⟩ := x
      have c0 := L2.out.cell ca0 (by simp)
      have c1 := L2.out.cell ca1 (by simp)
      have c2 := L2.out.cell ca2 (by simp)
      have c3 := L2.out.cell ca3 (by simp)
      have c4 := L2.out.cell ca4 (by simp)
      have c5 := L2.out.cell ca5 (by simp)
      have d0 := L2.out.cell cb0 (by simp)
      have d1 := L2.out.cell cb1 (by simp)
      have d2 := L2.out.cell cb2 (by simp)
      have d3 := L2.out.cell cb3 (by simp)
      have d4 := L2.out.cell cb4 (by simp)
      have d5 := L2.out.cell cb5 (by simp)
      have hi1 : (0 : Int) ≤ (i : Int) := by omega
      have hi2 : (i : Int) < (n : Int) := by omega
      clear ca0 ca1 ca2 ca3 ca4 ca5 cb0 cb1 cb2 cb3 cb4 cb5 hx
      go_wp2
      go_region
      all_goals
        go_wp2
        go_roundw
        case rel => exact ⟨i + 1, by omega, by go_num, by first | exact gr_none L2.out gr_d1 | exact gr_none L2.out (gr_d _) | exact L2.out⟩
        case measure => simp [intOf]; omega
    · obtain rfl : i = n := by omega
      go_wp2
      go_ret
      exact ⟨rfl, L2.out⟩

set_option maxHeartbeats 4000000 in
set_option maxRecDepth 10000 in
/-- Nets that are the same. -/
theorem nets_at (nodes : Int) (ao bo : Option Addr) (n ac bc : Nat) (ps : List Prt) (w : World) (h1 : PartsAt w (.slice ao n ac) ps) (h2 : PartsAt w (.slice bo n bc) ps) (hl : ps.length ≤ 100000) :
    Calls Tryz.prog 32 #[.agg #[.int .i64 nodes, .slice ao n ac], .agg #[.int .i64 nodes, .slice bo n bc]] w fun e w' => e = .returned (.bool true) ∧ w.grownBy w' none := by
  have H1 := hide h1
  have H2 := hide h2
  clear h1 h2
  obtain ⟨W, hW⟩ : ∃ W, W = (w.alloc (Obj.cells #[.int .i64 nodes, .slice ao n ac] 61)).alloc (Obj.cells #[.int .i64 nodes, .slice bo n bc] 61) := ⟨_, rfl⟩
  have GW : Hid (w.grownBy W none) := by rw [hW]; exact gr_alloc (gr_alloc (gr_refl _ _) _) _
  have B1 : W.heap[w.heap.size]? = some (.cells #[.int .i64 nodes, .slice ao n ac] 61 (0, 0)) := by
    rw [hW, heap_alloc_old _ _ (by simp)]
    exact heap_alloc_new _ _
  have B2 : W.heap[w.heap.size + 1]? = some (.cells #[.int .i64 nodes, .slice bo n bc] 61 (0, 0)) := by
    have hs : (w.alloc (Obj.cells #[.int .i64 nodes, .slice ao n ac] 61)).heap.size = w.heap.size + 1 := by simp
    rw [hW, ← hs]
    exact heap_alloc_new _ _
  obtain ⟨s0, s1, _⟩ := two_cells B1
  obtain ⟨t0, t1, _⟩ := two_cells B2
  clear B1 B2
  go_enter Tryz.func32, Tryz.ntmps32
  go_upto_region 1 with fail
  rw [← hW]
  clear hW
  go_wp2_with fail
  refine (equalP_at _ _ ps W (H1.out.keep GW.out) (H2.out.keep GW.out) hl).mono ?_
  rintro e w1 ⟨rfl, g1⟩
  have G1 := hide g1
  clear g1 s0 s1 t0 t1
  go_wp2
  go_ret
  exact ⟨rfl, gr_none GW.out G1.out⟩

set_option maxHeartbeats 4000000 in
set_option maxRecDepth 10000 in
theorem part_at (k a b : Int) (v : ByteArray) (w : World) :
    Calls Tryz.prog 34 #[.int .i64 k, .int .i64 a, .int .i64 b, .string v] w fun e w' => e = .returned (.agg #[.int .i64 k, .int .i64 a, .int .i64 b, .int .i64 0, .int .i64 0, .string v]) ∧ w.grownBy w' none := by
  go_enter Tryz.func34, Tryz.ntmps34
  go_wp2
  refine bodyPost_ret (v := .agg #[.int .i64 k, .int .i64 a, .int .i64 b, .int .i64 0, .int .i64 0, .string v]) (by first | (simp [results, Tryz.results34, go_sem]; done) | (simp [results, Tryz.results34, go_sem]; rfl)) rfl ?_
  exact ⟨rfl, by repeat (first | exact gr_refl _ _ | refine gr_set ?_ _ _ (by simp) | refine gr_alloc ?_ _)⟩
end Go.Proofs.YtbihhkcgiepgaaeGreatDoor
