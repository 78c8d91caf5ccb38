/- Pairs of rows that a call gathers; gates: changing. -/
import Derived.Test.YtidnhafllbckcaaGMath2
import Derived.Maps.AppendAt
namespace Go.Proofs.Ytidnhafllbckcaa
open Go.RowKit
set_option linter.unusedVariables false
set_option linter.unusedSimpArgs false

set_option maxHeartbeats 2000000 in
set_option maxRecDepth 10000 in
theorem changing_at (n : Nat) (t : Ex n) (c0 c1 c2 c3 : Value) (row j k : Nat) (w : World) (hw : WayC w n c0 c1 c2 c3 t) (hf : FineE k n t) (hr : row < 64) (hk : k ≤ 6) (hj : j < k) :
    Calls Try.prog 21 #[.agg #[c0, c1, c2, c3], .int .i64 (row : Nat), .int .i64 (j : Nat), .int .i64 (k : Nat)] w fun e w' => e = .returned (.int .i64 (leadsE ((bitsL row k).set j 2) n t)) ∧ w.grownBy w' none := by
  have HW := hide hw
  have HF := hide hf
  obtain ⟨kd, i, b, ao, len, cap, rfl, rfl, rfl, rfl⟩ := hw.cells
  clear hw hf
  have gA : Hid (w.grownBy (w.alloc (Obj.cells #[.int .i64 kd, .int .i64 i, .bool b, .slice ao len cap] 24)) none) := gr_alloc (gr_refl _ _) _
  go_enter Try.func21, Try.ntmps21
  go_wp2_with fail
  refine (inputs_at row k _ hr hk).mono ?_
  rintro e w1 ⟨rfl, ha, g1⟩
  have HA := hide ha
  have B1 := hide (boxKept g1)
  have G1 := hide (gr_none gA.out g1)
  obtain ⟨g, hg⟩ : ∃ g, g = (w.alloc (Obj.cells #[.int .i64 kd, .int .i64 i, .bool b, .slice ao len cap] 24)).heap.size := ⟨_, rfl⟩
  rw [← hg] at HA ⊢
  have hgs : w.heap.size < g := by rw [hg]; simp
  have hng : ¬ w.heap.size = g := by omega
  have hng2 : ¬ g = w.heap.size := by omega
  have hc := HA.out.cell j (by rw [bitsL_length]; exact hj)
  have hfz := HA.out.free j
  have HA2 := hide (HA.out.set j 2 (.int .i64 2) rfl)
  have HS1 := hide (gr_set1 w1 g j (.int .i64 2))
  obtain ⟨q0, q1, q2, q3⟩ := B1.out.c4
  have hsm : Small ((bitsL row k).set j 2) := by
    intro v hv
    rcases List.mem_or_eq_of_mem_set hv with h | h
    · exact bits_small row k v h
    · exact .inr (.inr h)
  have hln : ((bitsL row k).set j 2).length = k := by simp [bitsL_length]
  have HSM := hide hsm
  have HLN := hide hln
  clear g1 ha hg hsm hln
  go_wp2_with fail
  refine (leads_at _ HSM.out n t _ _ _ _ _ _ (HW.out.keep (gr_in G1.out HS1.out (by omega))) (IArr.row (xs := (bitsL row k).set j 2) HA2.out k HLN.out.symm (by omega)) (by rw [HLN.out]; exact HF.out)).mono ?_
  rintro e w2 ⟨rfl, g2⟩
  have G2 := hide (gr_none (gr_in G1.out HS1.out (by omega)) g2)
  clear g2
  go_wp2
  go_ret
  exact ⟨rfl, G2.out⟩

/-- The cells of pairs. -/
def prC (ps : List (Nat × Nat)) : List Value := ps.flatMap fun p => [.int .i64 (p.1 : Nat), .int .i64 (p.2 : Nat)]

theorem prC_length (ps : List (Nat × Nat)) : (prC ps).length = ps.length * 2 := by
  induction ps with
  | nil => rfl
  | cons p r ih =>
    have : prC (p :: r) = [.int .i64 (p.1 : Nat), .int .i64 (p.2 : Nat)] ++ prC r := rfl
    rw [this, List.length_append, ih]
    simp
    omega
theorem prC_append (ps qs : List (Nat × Nat)) : prC (ps ++ qs) = prC ps ++ prC qs := by simp [prC]
theorem prC_get : ∀ (ps : List (Nat × Nat)) (j : Nat) (h : j < ps.length), (prC ps)[j * 2]? = some (.int .i64 ((ps[j]).1 : Nat)) ∧ (prC ps)[j * 2 + 1]? = some (.int .i64 ((ps[j]).2 : Nat))
  | p :: r, 0, _ => ⟨rfl, rfl⟩
  | p :: r, j + 1, h => by
    have := prC_get r j (by simpa using h)
    have e : prC (p :: r) = .int .i64 (p.1 : Nat) :: .int .i64 (p.2 : Nat) :: prC r := rfl
    rw [e, show (j + 1) * 2 = j * 2 + 1 + 1 by omega]
    simpa using this

/-- A slice of pairs that the call itself has made. -/
def PrO (w : World) (base : Nat) (v : Value) (ps : List (Nat × Nat)) : Prop := w.ownsRow base 42 2 v ps.length (prC ps)

theorem PrO.keep {w w' : World} {base : Nat} {v : Value} {ps : List (Nat × Nat)} (h : PrO w base v ps) (g : w.grownBy w' none) : PrO w' base v ps := World.ownsRow.kept h g (by
  cases hv : v.ownBlock with
  | none => exact .inl rfl
  | some k => right; simp)
theorem PrO.shape {w : World} {base : Nat} {v : Value} {ps : List (Nat × Nat)} (h : PrO w base v ps) : ∃ ao cap, v = .slice ao ps.length cap := by
  rcases h.2 with ⟨rfl, e⟩ | ⟨g, cap, cur, rfl, _⟩
  · exact ⟨none, 0, by rw [e]⟩
  · exact ⟨_, _, rfl⟩
/-- As it is read. -/
def PrR (w : World) (v : Value) (ps : List (Nat × Nat)) : Prop := ∃ ao cap, v = .slice ao ps.length cap ∧ ps.length ≤ cap ∧ cap ≤ maxLen ∧
  ∀ j (h : j < ps.length), ∃ b off, ao = some ⟨b, off, none⟩ ∧ b < w.heap.size ∧ w.cell? ⟨b, off + j * 2, none⟩ = some (.int .i64 ((ps[j]).1 : Nat)) ∧ w.cell? ⟨b, off + j * 2 + 1, none⟩ = some (.int .i64 ((ps[j]).2 : Nat))
theorem PrR.keep {w w' : World} {v : Value} {ps : List (Nat × Nat)} (h : PrR w v ps) (g : w.grownBy w' none) : PrR w' v ps := by
  obtain ⟨ao, cap, e, h1, h2, h3⟩ := h
  refine ⟨ao, cap, e, h1, h2, fun j hj => ?_⟩
  obtain ⟨b, off, e1, hb, c1, c2⟩ := h3 j hj
  exact ⟨b, off, e1, Nat.lt_of_lt_of_le hb g.size, gr_cell g c1, gr_cell g c2⟩
theorem PrO.read {w : World} {base : Nat} {v : Value} {ps : List (Nat × Nat)} (h : PrO w base v ps) : PrR w v ps := by
  have hx := prC_length ps
  rcases h.2 with ⟨rfl, e⟩ | ⟨g, cap, cur, rfl, _, hg, h1, h2, h3, h4⟩
  · refine ⟨none, 0, by rw [e], by omega, Nat.zero_le _, fun j hj => by omega⟩
  · refine ⟨_, cap, rfl, h1, h2, fun j hj => ⟨g, 0, rfl, (Array.getElem?_eq_some_iff.1 hg).1, ?_⟩⟩
    obtain ⟨c1, c2⟩ := prC_get ps j hj
    have hc : ∀ i u, (prC ps)[i]? = some u → w.cell? ⟨g, i, none⟩ = some u := fun i u hu => by
      rw [← h4] at hu
      have hi : i < ps.length * 2 := by
        have := (List.getElem?_eq_some_iff.1 hu).1
        rw [List.length_take] at this
        omega
      rw [List.getElem?_take_of_lt hi] at hu
      simpa [World.cell?, hg] using hu
    rw [Nat.zero_add]
    exact ⟨hc _ _ c1, hc _ _ c2⟩

theorem Try.infoPair : (Try.prog.info? 42).map (fun i => (i.zero, i.size, i.bytes)) = some (some (.agg #[.int .i64 0, .int .i64 0]), 2, 16) := by kernel_rfl

/-- 'out = append(out, [2]int{..})'. -/
theorem wpList_append_pr {P : Program} (W : World) {ops : Array Oper} {rest : List Oper} {o : Oper} {a : Act} {Q : Exit → Act → World → Prop}
    (hg : o.guard = none) (s x : Operand) (t : TypeId) (ho : o.op = .call { callee := .builtin .append, args := #[s, x], argTypes := #[t, t] }) (base : Nat)
    (h1 : P.underlying t = some (.slice 42)) (hinfo : (P.info? 42).map (fun i => (i.zero, i.size, i.bytes)) = some (some (.agg #[.int .i64 0, .int .i64 0]), 2, 16))
    (v : Value) (qs : List (Nat × Nat)) (hs : a.eval s = v) (hown : PrO W base v qs) (b : Nat) (p : Nat × Nat) (hx : a.eval x = .slice (some ⟨b, 0, none⟩) 1 1) (hc0 : W.cell? ⟨b, 0, none⟩ = some (.int .i64 (p.1 : Nat))) (hc1 : W.cell? ⟨b, 1, none⟩ = some (.int .i64 (p.2 : Nat)))
    (hlen : qs.length ≤ 100000) (hbase : base ≤ W.heap.size)
    (hK : ∀ ao cap w', PrO w' base (.slice ao (qs.length + 1) cap) (qs ++ [p]) → W.grownBy w' v.ownBlock → wpList P ops Q rest (a.put o.dst (.slice ao (qs.length + 1) cap)) w') : wpList P ops Q (o :: rest) a W := by
  obtain ⟨i0, hi0, hz0, hz1, hz2⟩ := info_parts hinfo
  refine wpList_append_own W hg s x t ho base _ i0 _ 2 16 h1 hi0 hz0 hz1 hz2 rfl (by decide) v qs.length (prC qs) hs hown ⟨b, 0, none⟩ 1 1 [.int .i64 (p.1 : Nat), .int .i64 (p.2 : Nat)] hx rfl ?_ ?_ (by unfold maxLen; omega) (by omega) hbase ?_
  · intro j u hu
    match j, hu with
    | 0, hu => simp at hu; subst hu; simpa [Addr.add] using hc0
    | 1, hu => simp at hu; subst hu; simpa [Addr.add] using hc1
    | j + 2, hu => simp at hu
  · intro u hu
    simp at hu
    rcases hu with rfl | rfl <;> rfl
  · intro v' w' hown' hgr _
    have h2 : PrO w' base v' (qs ++ [p]) := by
      show World.ownsRow _ _ _ _ _ _ _
      rw [List.length_append, prC_append]
      exact hown'
    obtain ⟨ao, cap, ev⟩ := h2.shape
    rw [List.length_append, List.length_singleton] at ev
    subst ev
    exact hK ao cap w' h2 hgr
end Go.Proofs.Ytidnhafllbckcaa
