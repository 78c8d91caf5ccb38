/- Slices of fractions that a call itself made: append touches no word. -/
import Derived.Test.YtklkpkkjakllfaaGreatDoorXPa
import Derived.Laws.AppendOwn
import Derived.Test.YtklkpkkjakllfaaGreatDoorXPb
set_option linter.unusedVariables false
set_option linter.unusedSimpArgs false
set_option maxHeartbeats 4000000
set_option maxRecDepth 10000
namespace Go.Proofs.YtklkpkkjakllfaaGreatDoor
open Go.RowKit
def NoW (w : World) (k : Nat) : Prop := ∀ i f (x : Nat), w.cell? ⟨k, i, f⟩ ≠ some (.int .u32 (x : Nat))
def NoWv (w : World) (v : Value) : Prop := ∀ k, v.ownBlock = some k → NoW w k
theorem NoWv.nil (w : World) : NoWv w (.slice none 0 0) := fun k e => by simp [Value.ownBlock] at e
theorem NoW.cells {w : World} {k : Nat} {cur : Array Value} {e : TypeId} (hb : w.heap[k]? = some (.cells cur e (0, 0))) (h : ∀ u ∈ cur.toList, ∀ x : Nat, u ≠ .int .u32 (x : Nat)) : NoW w k := by
  intro i f x hc
  cases f with
  | none =>
    simp only [World.cell?, hb] at hc
    have hc' : cur.toList[i]? = some (.int .u32 (x : Nat)) := by rw [Array.getElem?_toList]; exact hc
    exact h _ (List.mem_of_getElem? hc') x rfl
  | some g => simp [World.cell?, hb] at hc
theorem NoW.all {w : World} {k : Nat} {cur : Array Value} {e : TypeId} (hb : w.heap[k]? = some (.cells cur e (0, 0))) (h : NoW w k) : ∀ u ∈ cur.toList, ∀ x : Nat, u ≠ .int .u32 (x : Nat) := by
  intro u hu x e2
  obtain ⟨i, hi⟩ := List.mem_iff_getElem?.1 hu
  refine h i none x ?_
  simp only [World.cell?, hb]
  rw [← e2, ← Array.getElem?_toList]
  exact hi
theorem NoW.keep {w w' : World} {k : Nat} {r : Option Nat} (h : NoW w k) (hk : k < w.heap.size) (g : w.grownBy w' r) (hr : some k ≠ r) : NoW w' k := by
  intro i f x e
  rw [World.cell?_of_block (g.block k hk hr)] at e
  exact h i f x e
theorem run_append_nwf {P : Program} (w : World) (base : Nat) (t ty e : TypeId) (i : TypeInfo) (z : Value) (size bytes : Nat) (ht : P.underlying t = some (.slice e)) (hi : P.info? e = some i) (hz : i.zero = some z)
    (hsize : i.size = size) (hby : i.bytes = bytes) (hzs : z.cells.size = size) (hs0 : 0 < size) (hz1 : ∀ j (x : Nat), j < size → z.cells[j]! ≠ .int .u32 (x : Nat))
    (v : Value) (n : Nat) (xs : List Value) (hown : w.ownsRow base e size v n xs) (hnw : NoWv w v) (hxs : ∀ u ∈ xs, ∀ x : Nat, u ≠ .int .u32 (x : Nat))
    (a : Addr) (m c : Nat) (news : List Value) (hl : news.length = m * size) (hm : 0 < m) (hnews : ∀ j u, news[j]? = some u → w.cell? (a.add j) = some u) (h1' : ∀ u ∈ news, u.oneCell' = true) (hyw : ∀ u ∈ news, ∀ x : Nat, u ≠ .int .u32 (x : Nat))
    (h63 : n + m ≤ maxLen) (hbytes : (n + m) * bytes ≤ 140737488355328) (hbase : base ≤ w.heap.size) :
    ∃ v' w', (Builtin.append_ #[t, t] ty #[v, .slice (some a) m c]).run P w = .ok v' w' ∧ w'.ownsRow base e size v' (n + m) (xs ++ news) ∧ w.grownBy w' v.ownBlock ∧ NoWv w' v' ∧ WKept w w' := by
  obtain ⟨v', w', hr, h2, h3, _⟩ := run_append_own (P := P) w base t ty e i z size bytes ht hi hz hsize hby hzs hs0 v n xs hown a m c news hl hnews h1' h63 hbytes hbase
  refine ⟨v', w', hr, h2, h3, ?_⟩
  have hsmall : n + m ≤ 9223372036854775807 := by simp only [maxLen] at h63; omega
  have fresh : ∀ cur : Array Value, (∀ u ∈ cur.toList, ∀ x : Nat, u ≠ .int .u32 (x : Nat)) → ∀ c2, w' = w.drew.alloc (.cells cur e) → v' = .slice (some ⟨w.heap.size, 0, none⟩) (n + m) c2 → NoWv w' v' ∧ WKept w w' := by
    intro cur hc c2 ew ev
    have hgr : w.grownBy w' none := by rw [ew]; exact ⟨rfl, rfl, rfl, by simp, fun k hk _ => heap_alloc_old w.drew _ hk⟩
    refine ⟨fun k ek => ?_, WKept.of_gr hgr⟩
    rw [ev] at ek
    simp only [Value.ownBlock, Option.some.injEq] at ek
    subst ek
    exact NoW.cells (by rw [ew]; exact heap_alloc_new w.drew _) hc
  have hzc : ∀ k, ∀ u ∈ (Builtin.zeroCells z.cells k).toList, ∀ x : Nat, u ≠ .int .u32 (x : Nat) := by
    intro k u hu x
    unfold Builtin.zeroCells at hu
    simp only [Array.toList_map, List.mem_map] at hu
    obtain ⟨j, _, rfl⟩ := hu
    rw [hzs]
    exact hz1 _ x (Nat.mod_lt _ hs0)
  rcases hown.2 with ⟨rfl, rfl⟩ | ⟨g, cap, cur, rfl, hbg, hg, hnc, hcm, hcs, htake⟩
  · have hr2 := run_append_nil (P := P) w t ty e i z ht hi hz a m c news (by rw [hsize]; exact hl) hnews hm (by omega) (by rw [hby]; rw [Nat.zero_add] at hbytes; omega)
    rw [hr2] at hr
    injection hr with e1 e2
    refine fresh _ ?_ (grownCap w m 0 e) e2.symm (by rw [Nat.zero_add]; exact e1.symm)
    intro u hu
    simp only [Array.toList_append, List.mem_append] at hu
    rcases hu with hu | hu
    · exact hyw u (by simpa using hu)
    · exact hzc _ u hu
  · by_cases hroom : n + m ≤ cap
    · have hfit : n * i.size + news.length ≤ cur.size := by
        rw [hsize, hcs, hl, ← Nat.add_mul]
        exact Nat.mul_le_mul_right _ hroom
      have hr2 := run_append_room (P := P) w t ty e i ht hi g n cap cur hg a m c news (by rw [hsize]; exact hl) hnews h1' hroom hfit
      rw [hr2] at hr
      injection hr with e1 e2
      have hw := hnw g rfl
      have hnew := setRow_heap w g cur ((cur.toList.take (n * i.size) ++ news ++ cur.toList.drop (n * i.size + news.length)).toArray) e _ hg
      refine ⟨fun k ek => ?_, ⟨h3.size, fun ad x ex => ?_⟩⟩
      · rw [← e1] at ek
        simp only [Value.ownBlock, Option.some.injEq] at ek
        subst ek
        rw [← e2]
        refine NoW.cells hnew ?_
        intro u hu x
        simp only [List.mem_append] at hu
        rcases hu with (hu | hu) | hu
        · exact hw.all hg u (List.mem_of_mem_take hu) x
        · exact hyw u hu x
        · exact hw.all hg u (List.mem_of_mem_drop hu) x
      · have hne : ad.block ≠ g := fun e3 => by
          obtain ⟨b, i, f⟩ := ad
          simp only at e3
          subst e3
          exact hw i f x ex
        rw [World.cell?_of_block (h3.block ad.block (cell_lt ex) (fun e3 => hne (by simp only [Value.ownBlock, Option.some.injEq] at e3; exact e3)))]
        exact ex
    · have holds : ∀ j u, xs[j]? = some u → w.cell? ((⟨g, 0, none⟩ : Addr).add j) = some u := hown.cells (g := g) rfl
      have hr2 := run_append_grow (P := P) w t ty e i z ht hi hz ⟨g, 0, none⟩ n cap xs (by rw [hsize]; exact hown.1) holds a m c news (by rw [hsize]; exact hl) hnews (by omega) (by omega) (growslice_fits (by omega) (by rw [hby]; exact hbytes))
      rw [hr2] at hr
      injection hr with e1 e2
      refine fresh _ ?_ _ e2.symm e1.symm
      intro u hu
      simp only [Array.toList_append, List.mem_append] at hu
      rcases hu with (hu | hu) | hu
      · exact hxs u (by simpa using hu)
      · exact hyw u (by simpa using hu)
      · exact hzc _ u hu
def FCells (w : World) (xs : List Value) (n : Nat) (R : Nat → Rat) (L : Nat) : Prop :=
  xs.length = n * 3 ∧ ∀ i, i < n → ∃ uo ul uc do_ dl dc, xs[i * 3]? = some (.bool (rB (R i))) ∧ xs[i * 3 + 1]? = some (.slice uo ul uc) ∧ xs[i * 3 + 2]? = some (.slice do_ dl dc) ∧ FQ w (.agg #[.bool (rB (R i)), .slice uo ul uc, .slice do_ dl dc]) (R i) L
theorem FCells.kept {w w' : World} {xs : List Value} {n : Nat} {R : Nat → Rat} {L : Nat} (h : FCells w xs n R L) (k : WKept w w') : FCells w' xs n R L := by
  refine ⟨h.1, fun i hi => ?_⟩
  obtain ⟨uo, ul, uc, do_, dl, dc, c0, c1, c2, c3⟩ := h.2 i hi
  exact ⟨uo, ul, uc, do_, dl, dc, c0, c1, c2, c3.kept k⟩
theorem FCells.mem {w : World} {xs : List Value} {n : Nat} {R : Nat → Rat} {L : Nat} (h : FCells w xs n R L) : ∀ u ∈ xs, u.oneCell' = true ∧ ∀ x : Nat, u ≠ .int .u32 (x : Nat) := by
  intro u hu
  obtain ⟨j, hj⟩ := List.mem_iff_getElem?.1 hu
  have hjl : j < n * 3 := by have := (List.getElem?_eq_some_iff.1 hj).1; rw [h.1] at this; exact this
  obtain ⟨uo, ul, uc, do_, dl, dc, c0, c1, c2, c3⟩ := h.2 (j / 3) (by omega)
  have hcase : j = j / 3 * 3 ∨ j = j / 3 * 3 + 1 ∨ j = j / 3 * 3 + 2 := by omega
  rcases hcase with e | e | e
  · rw [e, c0] at hj; rw [← Option.some.inj hj]; exact ⟨rfl, fun x e => by cases e⟩
  · rw [e, c1] at hj; rw [← Option.some.inj hj]; exact ⟨rfl, fun x e => by cases e⟩
  · rw [e, c2] at hj; rw [← Option.some.inj hj]; exact ⟨rfl, fun x e => by cases e⟩
theorem FCells.append {w : World} {xs ys : List Value} {n m : Nat} {R S : Nat → Rat} {L : Nat} (h : FCells w xs n R L) (k : FCells w ys m S L) : FCells w (xs ++ ys) (n + m) (fun i => if i < n then R i else S (i - n)) L := by
  refine ⟨by rw [List.length_append, h.1, k.1, Nat.add_mul], fun i hi => ?_⟩
  by_cases hn : i < n
  · simp only [if_pos hn]
    obtain ⟨uo, ul, uc, do_, dl, dc, c0, c1, c2, c3⟩ := h.2 i hn
    have := h.1
    exact ⟨uo, ul, uc, do_, dl, dc, by rw [List.getElem?_append_left (by omega)]; exact c0, by rw [List.getElem?_append_left (by omega)]; exact c1, by rw [List.getElem?_append_left (by omega)]; exact c2, c3⟩
  · simp only [if_neg hn]
    obtain ⟨uo, ul, uc, do_, dl, dc, c0, c1, c2, c3⟩ := k.2 (i - n) (by omega)
    have := h.1
    exact ⟨uo, ul, uc, do_, dl, dc, by rw [List.getElem?_append_right (by omega), show i * 3 - xs.length = (i - n) * 3 by omega]; exact c0, by rw [List.getElem?_append_right (by omega), show i * 3 + 1 - xs.length = (i - n) * 3 + 1 by omega]; exact c1, by rw [List.getElem?_append_right (by omega), show i * 3 + 2 - xs.length = (i - n) * 3 + 2 by omega]; exact c2, c3⟩
theorem FCells.row {w : World} {g n : Nat} {cur : Array Value} {e : TypeId} {xs : List Value} {R : Nat → Rat} {L : Nat} (hg : w.heap[g]? = some (.cells cur e (0, 0))) (ht : cur.toList.take (n * 3) = xs) (h : FCells w xs n R L) : FRow w g n R L := by
  refine ⟨cur, e, hg, fun i hi => ?_⟩
  obtain ⟨uo, ul, uc, do_, dl, dc, c0, c1, c2, c3⟩ := h.2 i hi
  have key : ∀ j v, j < n * 3 → xs[j]? = some v → cur[j]? = some v := by
    intro j v hj hv
    rw [← ht, List.getElem?_take, if_pos hj, Array.getElem?_toList] at hv
    exact hv
  exact ⟨_, _, key _ _ (by omega) c0, key _ _ (by omega) c1, key _ _ (by omega) c2, c3⟩
theorem FRow.cellsF {w : World} {b n L : Nat} {R : Nat → Rat} (h : FRow w b n R L) : ∃ xs : List Value, FCells w xs n R L ∧ ∀ j u, xs[j]? = some u → w.cell? ⟨b, j, none⟩ = some u := by
  obtain ⟨cur, e, hb, hc⟩ := h
  have hsz : n * 3 ≤ cur.size := by
    rcases Nat.eq_zero_or_pos n with h0 | h0
    · omega
    · obtain ⟨u, d, _, _, c2, _⟩ := hc (n - 1) (by omega)
      have := (Array.getElem?_eq_some_iff.1 c2).1
      omega
  have hget : ∀ j, j < n * 3 → (cur.toList.take (n * 3))[j]? = cur[j]? := by
    intro j hj
    rw [List.getElem?_take, if_pos hj, Array.getElem?_toList]
  refine ⟨cur.toList.take (n * 3), ⟨by simp; omega, fun i hi => ?_⟩, fun j u hj => ?_⟩
  · obtain ⟨u, d, c0, c1, c2, c3⟩ := hc i hi
    obtain ⟨uo, ul, uc, do_, dl, dc, hs⟩ := c3.shape
    simp only [Value.agg.injEq, Array.mk.injEq, List.cons.injEq, and_true, true_and] at hs
    obtain ⟨rfl, rfl⟩ := hs
    exact ⟨uo, ul, uc, do_, dl, dc, by rw [hget _ (by omega)]; exact c0, by rw [hget _ (by omega)]; exact c1, by rw [hget _ (by omega)]; exact c2, c3⟩
  · have hjk : j < n * 3 := by
      have := (List.getElem?_eq_some_iff.1 hj).1
      simp at this
      omega
    rw [hget j hjk] at hj
    simp only [World.cell?, hb]
    exact hj
def OwnF (w : World) (base : Nat) (v : Value) (n : Nat) (R : Nat → Rat) (L : Nat) : Prop :=
  ∃ xs, w.ownsRow base 75 3 v n xs ∧ NoWv w v ∧ FCells w xs n R L
theorem ownF_nil {w : World} {base : Nat} {R : Nat → Rat} {L : Nat} : OwnF w base (.slice none 0 0) 0 R L := ⟨[], ⟨rfl, .inl ⟨rfl, rfl⟩⟩, NoWv.nil _, rfl, fun i h => by omega⟩
theorem OwnF.rowF {w : World} {base : Nat} {v : Value} {n : Nat} {R : Nat → Rat} {L : Nat} (h : OwnF w base v n R L) : Rw w v n R L := by
  obtain ⟨xs, h1, h2, h3⟩ := h
  rcases h1.2 with ⟨rfl, rfl⟩ | ⟨g, cap, cur, rfl, hbg, hg, hnc, hcm, hcs, htake⟩
  · exact ⟨none, 0, rfl, Nat.le_refl _, by unfold maxLen; omega, fun h => by omega⟩
  · exact ⟨_, cap, rfl, hnc, hcm, fun _ => ⟨g, rfl, FCells.row hg htake h3⟩⟩
theorem OwnF.shape {w : World} {base : Nat} {v : Value} {n : Nat} {R : Nat → Rat} {L : Nat} (h : OwnF w base v n R L) : ∃ ao c, v = .slice ao n c := by
  obtain ⟨ao, c, e, _⟩ := h.rowF
  exact ⟨ao, c, e⟩
theorem OwnF.fresh {w : World} {base : Nat} {v : Value} {n : Nat} {R : Nat → Rat} {L : Nat} (h : OwnF w base v n R L) (k : Nat) (hk : v.ownBlock = some k) : base ≤ k ∧ k < w.heap.size := by
  obtain ⟨xs, h1, h2, h3⟩ := h
  rcases h1.2 with ⟨rfl, rfl⟩ | ⟨g, cap, cur, rfl, hbg, hg, hnc, hcm, hcs, htake⟩
  · simp [Value.ownBlock] at hk
  · simp only [Value.ownBlock, Option.some.injEq] at hk
    subst hk
    exact ⟨hbg, (Array.getElem?_eq_some_iff.1 hg).1⟩
theorem OwnF.keep0 {w w' : World} {base : Nat} {v : Value} {n : Nat} {R : Nat → Rat} {L : Nat} (h : OwnF w base v n R L) (hg : w.grownBy w' none) : OwnF w' base v n R L := by
  have hf := h.fresh
  obtain ⟨xs, h1, h2, h3⟩ := h
  refine ⟨xs, ⟨h1.1, ?_⟩, fun k ek => (h2 k ek).keep (hf k ek).2 hg (by simp), h3.kept (WKept.of_gr hg)⟩
  rcases h1.2 with h | ⟨g, cap, cur, rfl, hbg, hgg, rest⟩
  · exact .inl h
  · exact .inr ⟨g, cap, cur, rfl, hbg, by rw [hg.block g (hf g rfl).2 (by simp)]; exact hgg, rest⟩
theorem OwnF.congr {w : World} {base : Nat} {v : Value} {n : Nat} {R R' : Nat → Rat} {L : Nat} (h : OwnF w base v n R L) (k : ∀ i, i < n → R i = R' i) : OwnF w base v n R' L := by
  obtain ⟨xs, h1, h2, h3⟩ := h
  refine ⟨xs, h1, h2, h3.1, fun i hi => ?_⟩
  rw [← k i hi]
  exact h3.2 i hi
theorem wpList_append_fs {P : Program} (W : World) {ops : Array Oper} {rest : List Oper} {o : Oper} {a : Act} {Q : Exit → Act → World → Prop}
    (hg : o.guard = none) (s x : Operand) (t : TypeId) (ho : o.op = .call { callee := .builtin .append, args := #[s, x], argTypes := #[t, t] }) (base : Nat)
    (h1 : P.underlying t = some (.slice 75)) (hinfo : (P.info? 75).map (fun i => (i.zero, i.size, i.bytes)) = some (some (.agg #[.bool false, .slice none 0 0, .slice none 0 0]), 3, 56))
    (v : Value) (n : Nat) (R : Nat → Rat) (L : Nat) (hs : a.eval s = v) (hown : OwnF W base v n R L) (b m c : Nat) (S : Nat → Rat) (hx : a.eval x = .slice (some ⟨b, 0, none⟩) m c) (hrow : FRow W b m S L) (hm : 0 < m)
    (hlen : n + m ≤ 1000000) (hbase : base ≤ W.heap.size)
    (hK : ∀ ao cap w', OwnF w' base (.slice ao (n + m) cap) (n + m) (fun i => if i < n then R i else S (i - n)) L → W.grownBy w' v.ownBlock → WKept W w' → wpList P ops Q rest (a.put o.dst (.slice ao (n + m) cap)) w') : wpList P ops Q (o :: rest) a W := by
  obtain ⟨i, hi, hz0, hsz, hz2⟩ := info_parts hinfo
  obtain ⟨xs, o1, o2, o3⟩ := hown
  obtain ⟨ys, y1, y2⟩ := hrow.cellsF
  obtain ⟨v', w', hr, h2, h3, h4, h5⟩ := run_append_nwf (P := P) W base t o.type 75 i _ 3 56 h1 hi hz0 hsz hz2 rfl (by decide)
    (fun j x hj => by
      have hc : j = 0 ∨ j = 1 ∨ j = 2 := by omega
      rcases hc with rfl | rfl | rfl <;> (intro e; cases e))
    v n xs o1 o2 (fun u hu => (o3.mem u hu).2) ⟨b, 0, none⟩ m c ys y1.1 hm (fun j u hj => by rw [show (⟨b, 0, none⟩ : Addr).add j = ⟨b, j, none⟩ from by unfold Addr.add; by_cases h : j = 0 <;> simp [h]]; exact y2 j u hj) (fun u hu => (y1.mem u hu).1) (fun u hu => (y1.mem u hu).2) (by unfold maxLen; omega) (by omega) hbase
  have h6 : OwnF w' base v' (n + m) (fun i => if i < n then R i else S (i - n)) L := ⟨_, h2, h4, (o3.kept h5).append (y1.kept h5)⟩
  obtain ⟨ao, cap, ev⟩ := h6.shape
  refine wpList_plain hg fun _ hK2 => ?_
  unfold Oper.wp execOp
  simp only [ho, resolve, invoke, builtin, Sem.run_bind, Sem.run_pure, Result.andThen_ok, List.map_toArray, List.map_cons, List.map_nil, hs, hx, hr]
  rw [ev] at h6 ⊢
  exact hK2 _ _ (hK ao cap w' h6 h3 h5)
theorem wpList_make_fo {P : Program} (w : World) {ops : Array Oper} {rest : List Oper} {o : Oper} {a : Act} {Q : Exit → Act → World → Prop}
    (hg : o.guard = none) (l c : Operand) (t : TypeId) (hop : o.op = Op.makeSlice t l c)
    (h1 : P.underlying t = some (.slice 75)) (hinfo : (P.info? 75).map (fun i => (i.zero, i.size, i.bytes)) = some (some (.agg #[.bool false, .slice none 0 0, .slice none 0 0]), 3, 56))
    (kl kc : IntKind) (L C : Int) (n : Nat) (hl : a.eval l = .int kl L) (hc : a.eval c = .int kc C) (hL : L = (n : Int)) (hC : C = (n : Int)) (b2 : n ≤ 1000000)
    (hK : ∀ w', OwnF w' w.heap.size (.slice (some ⟨w.heap.size, 0, none⟩) n n) n (fun _ => 0) 0 → w.grownBy w' none → wpList P ops Q rest (a.put o.dst (.slice (some ⟨w.heap.size, 0, none⟩) n n)) w') :
    wpList P ops Q (o :: rest) a w := by
  obtain ⟨i, hi, hz0, hz1, hz2⟩ := info_parts hinfo
  refine wpList_make_full w hg l c t hop w.heap.size 75 i _ 3 h1 hi hz0 hz1 kl kc L C n hl hc hL hC (by rw [hz2]; omega) (by unfold maxLen; omega) (Nat.le_refl _) ?_
  intro w' hown hgr
  refine hK w' ⟨_, hown, ?_, ?_⟩ hgr
  · intro k ek
    simp only [Value.ownBlock, Option.some.injEq] at ek
    subst ek
    rcases hown.2 with ⟨h, _⟩ | ⟨g, cap, cur, h, _, hh, _, _, hsz, ht⟩
    · simp at h
    · simp only [Value.slice.injEq, Option.some.injEq, Addr.mk.injEq, and_true, true_and] at h
      obtain ⟨rfl, rfl⟩ := h
      refine NoW.cells hh ?_
      intro u hu x
      have hu2 : u ∈ (madeCells (Value.agg #[.bool false, .slice none 0 0, .slice none 0 0]).cells (n * 3)).toList := by
        rw [← ht, List.take_of_length_le (by simp [hsz])]
        exact hu
      simp only [madeCells, Array.toList_map, List.mem_map] at hu2
      obtain ⟨j, _, rfl⟩ := hu2
      have e3 : (Value.agg #[.bool false, .slice none 0 0, .slice none 0 0]).cells.size = 3 := rfl
      rw [e3]
      have hcc : j % 3 = 0 ∨ j % 3 = 1 ∨ j % 3 = 2 := by omega
      rcases hcc with e | e | e <;> rw [e] <;> (intro e2; cases e2)
  · refine ⟨by simp [madeCells], fun j hj => ⟨none, 0, 0, none, 0, 0, ?_, ?_, ?_, fq_zero _ _⟩⟩
    · have e : j * 3 % 3 = 0 := by omega
      rw [Array.getElem?_toList]
      simp only [madeCells, Value.cells, Array.getElem?_map]
      rw [Array.getElem?_eq_getElem (by simp; omega)]
      simp [e]
      rfl
    · have e : (j * 3 + 1) % 3 = 1 := by omega
      rw [Array.getElem?_toList]
      simp only [madeCells, Value.cells, Array.getElem?_map]
      rw [Array.getElem?_eq_getElem (by simp; omega)]
      simp [e]
    · have e : (j * 3 + 2) % 3 = 2 := by omega
      rw [Array.getElem?_toList]
      simp only [madeCells, Value.cells, Array.getElem?_map]
      rw [Array.getElem?_eq_getElem (by simp; omega)]
      simp [e]
theorem OwnF.mono {w : World} {base : Nat} {v : Value} {n : Nat} {R : Nat → Rat} {L L' : Nat} (h : OwnF w base v n R L) (hl : L ≤ L') : OwnF w base v n R L' := by
  obtain ⟨xs, h1, h2, h3⟩ := h
  refine ⟨xs, h1, h2, h3.1, fun i hi => ?_⟩
  obtain ⟨uo, ul, uc, do_, dl, dc, c0, c1, c2, c3⟩ := h3.2 i hi
  exact ⟨uo, ul, uc, do_, dl, dc, c0, c1, c2, c3.mono hl⟩
def raiseP (p : Nat → Rat) (k : Nat) : Nat → Rat := fun i => if i < k then 0 else p (i - k)
theorem PL_raise {p : Nat → Rat} {n k : Nat} (h : PL p n) (h0 : 0 < n) : PL (raiseP p k) (k + n) := by
  refine ⟨fun i hi => ?_, fun _ => ?_⟩
  · unfold raiseP
    rw [if_neg (by omega)]
    exact h.1 _ (by omega)
  · unfold raiseP
    rw [if_neg (by omega), show k + n - 1 - k = n - 1 by omega]
    exact h.2 h0
theorem raised_at (x : Value) (n k : Nat) (p : Nat → Rat) (L : Nat) (w : World) (hx : Rw w x n p L) (hp : PL p n) (h0 : 0 < n) (hn : n ≤ 3000) (hk : k ≤ 3000) :
    Calls Tryz.prog 105 #[x, .int .i64 ((k : Nat) : Int)] w fun e w' => ∃ v, e = .returned v ∧ Rw w' v (k + n) (raiseP p k) L ∧ w.grownBy w' none := by
  obtain ⟨xo, xc, rfl, hc, hm, h3⟩ := hx
  obtain ⟨gx, ex, hr⟩ := h3 h0
  subst ex
  have hgl := hr.lt
  have HR := hide hr
  clear hr h3
  go_enter Tryz.func105, Tryz.ntmps105
  go_wp2_with (refine wpList_make_fo _ rfl _ _ 63 rfl Tryz.underlying63 Tryz.infoF .i64 .i64 _ _ k rfl rfl rfl rfl (by omega) ?_)
  intro W hO hG
  have HO := hide hO
  have HG := hide hG
  clear hO hG
  go_wp2_with (at_builtin; refine wpList_append_fs _ rfl _ _ 63 rfl w.heap.size Tryz.underlying63 Tryz.infoF _ k (fun _ => 0) L rfl (HO.out.mono (Nat.zero_le _)) gx n xc p rfl (HR.out.keep0 HG.out) h0 (by omega) HG.out.size ?_)
  intro ao cap w2 h1 h2 h3
  have H1 := hide h1
  have H2 : Hid (w.grownBy w2 none) := by
    refine gr_own2 HG.out h2 (fun b e => ?_)
    simp only [Value.ownBlock, Option.some.injEq] at e
    omega
  clear h1 h2 h3
  go_wp2
  go_ret
  exact ⟨_, rfl, H1.out.rowF.congr (fun i _ => rfl), H2.out⟩
end Go.Proofs.YtklkpkkjakllfaaGreatDoor
