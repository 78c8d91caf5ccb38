/- net: cutsOf. -/
import Derived.Test.YtfhamfgcjdhmdaaDoorNTell
import Derived.Deep.AppendLies
namespace Go.Proofs.YtfhamfgcjdhmdaaDoor
open Go.RowKit
set_option linter.unusedVariables false

theorem Tryd.infoInts : (Tryd.prog.info? 32).map (fun i => (i.zero, i.size, i.bytes)) = some (some (.slice none 0 0), 1, 24) := by kernel_rfl

/-- 'out = append(out, y)', y of one cell, and where the new slice lies. -/
theorem wpList_append_gl {P : Program} {α : Type} (f : α → Value) (e : TypeId) (z0 : Value) (by_ : Nat) (W : World) {ops : Array Oper} {rest : List Oper} {o : Oper} {a : Act} {Q : Exit → Act → World → Prop}
    (hg : o.guard = none) (s x : Operand) (t : TypeId) (ho : o.op = .call { callee := .builtin .append, args := #[s, x], argTypes := #[t, t] }) (base : Nat)
    (h1 : P.underlying t = some (.slice e)) (hinfo : (P.info? e).map (fun i => (i.zero, i.size, i.bytes)) = some (some z0, 1, by_)) (hcz : z0.cells.size = 1)
    (v : Value) (xs : List α) (hs : a.eval s = v) (hown : OwnG f e W base v xs) (b : Nat) (y : α) (hx : a.eval x = .slice (some ⟨b, 0, none⟩) 1 1) (hc : W.cell? ⟨b, 0, none⟩ = some (f y)) (h1c : (f y).oneCell' = true)
    (hlen : xs.length ≤ 1000000) (hby : by_ ≤ 24) (hbase : base ≤ W.heap.size)
    (hK : ∀ g cap w', OwnG f e w' base (.slice (some ⟨g, 0, none⟩) (xs.length + 1) cap) (xs ++ [y]) → W.grownBy w' v.ownBlock → (v.ownBlock = some g ∨ g = W.heap.size) → wpList P ops Q rest (a.put o.dst (.slice (some ⟨g, 0, none⟩) (xs.length + 1) cap)) w') : wpList P ops Q (o :: rest) a W := by
  obtain ⟨i, hi, hz0, hz1, hz2⟩ := info_parts hinfo
  refine wpList_append_lies W hg s x t ho base e i z0 1 by_ h1 hi hz0 hz1 hz2 hcz (by decide) v xs.length (xs.map f) hs hown ⟨b, 0, none⟩ 1 1 [f y] hx rfl ?_ ?_ (by decide) (by unfold maxLen; omega) ?_ hbase _ rfl ?_
  · intro j u hj
    match j with
    | 0 =>
      simp only [List.getElem?_cons_zero, Option.some.injEq] at hj
      subst hj
      simpa [Addr.add] using hc
    | j + 1 => simp at hj
  · intro u hu
    simp only [List.mem_singleton] at hu
    subst hu
    exact h1c
  · have : (xs.length + 1) * by_ ≤ (1000000 + 1) * 24 := Nat.mul_le_mul (by omega) hby
    omega
  · intro g cap w' hown' hgr hat _
    refine hK g cap w' ?_ hgr hat
    unfold OwnG
    rw [List.length_append, List.map_append]
    exact hown'

theorem RowG.keepB {α : Type} {f : α → Value} {w w' : World} {v : Value} {xs : List α} {row : Option Nat} (h : RowG f w v xs) (hg : w.grownBy w' row) (hr : ∀ k, v.ownBlock = some k → some k ≠ row) : RowG f w' v xs := by
  obtain ⟨ao, cap, rfl, h1, h2, h3⟩ := h
  refine ⟨ao, cap, rfl, h1, h2, fun i hi => ?_⟩
  obtain ⟨b, off, rfl, hb, c⟩ := h3 i hi
  exact ⟨b, off, rfl, Nat.lt_of_lt_of_le hb hg.size, hg.cell c (hr b rfl)⟩

/-- Slices of slices: the outer one is the call's own, the inner ones lie elsewhere. -/
def Own2 (w : World) (base : Nat) (ov : Value) (css : List (List Int)) : Prop :=
  ∃ vals : List Value, OwnG id 32 w base ov vals ∧ vals.length = css.length ∧ ∀ i (h : i < vals.length) (h' : i < css.length), RowG iv w vals[i] css[i] ∧ (∃ o l c, vals[i] = .slice o l c) ∧ ∀ k, vals[i].ownBlock = some k → base ≤ k ∧ k < w.heap.size ∧ some k ≠ ov.ownBlock

theorem own2_nil {w : World} {base : Nat} : Own2 w base (.slice none 0 0) [] := ⟨[], ownG_nil, rfl, fun i h => by simp at h⟩

theorem Own2.keep0 {w w' : World} {base : Nat} {ov : Value} {css : List (List Int)} (h : Own2 w base ov css) (hg : w.grownBy w' none) : Own2 w' base ov css := by
  obtain ⟨vals, h1, h2, h3⟩ := h
  refine ⟨vals, h1.keep0 hg, h2, fun i hi hi' => ?_⟩
  obtain ⟨k1, k2, k3⟩ := h3 i hi hi'
  exact ⟨k1.keep hg, k2, fun k hk => ⟨(k3 k hk).1, Nat.lt_of_lt_of_le (k3 k hk).2.1 hg.size, (k3 k hk).2.2⟩⟩

theorem Own2.keepB {w w' : World} {base g : Nat} {ov : Value} {css : List (List Int)} (h : Own2 w base ov css) (hg : w.grownBy w' (some g)) (hb : g < base) : Own2 w' base ov css := by
  obtain ⟨vals, h1, h2, h3⟩ := h
  refine ⟨vals, h1.keepB hg hb, h2, fun i hi hi' => ?_⟩
  obtain ⟨k1, k2, k3⟩ := h3 i hi hi'
  exact ⟨k1.keepB hg (fun k hk e => by have := (k3 k hk).1; cases e; omega), k2, fun k hk => ⟨(k3 k hk).1, Nat.lt_of_lt_of_le (k3 k hk).2.1 hg.size, (k3 k hk).2.2⟩⟩

/-- One more. -/
theorem Own2.snoc {w w1 w' : World} {base : Nat} {ov nw : Value} {css : List (List Int)} {vals : List Value} {row : List Int} {g cap : Nat} (h2 : vals.length = css.length)
    (h3 : ∀ i (h : i < vals.length) (h' : i < css.length), RowG iv w1 vals[i] css[i] ∧ (∃ o l c, vals[i] = .slice o l c) ∧ ∀ k, vals[i].ownBlock = some k → base ≤ k ∧ k < w1.heap.size ∧ some k ≠ ov.ownBlock)
    (hn : RowG iv w1 nw row) (hns : ∃ o l c, nw = .slice o l c) (hnk : ∀ k, nw.ownBlock = some k → base ≤ k ∧ k < w1.heap.size ∧ some k ≠ ov.ownBlock)
    (ho : OwnG id 32 w' base (.slice (some ⟨g, 0, none⟩) (vals.length + 1) cap) (vals ++ [nw])) (hgr : w1.grownBy w' ov.ownBlock) (hat : ov.ownBlock = some g ∨ w1.heap.size ≤ g) :
    Own2 w' base (.slice (some ⟨g, 0, none⟩) (vals.length + 1) cap) (css ++ [row]) := by
  have key : ∀ v xs, RowG iv w1 v xs → (∀ k, v.ownBlock = some k → base ≤ k ∧ k < w1.heap.size ∧ some k ≠ ov.ownBlock) → RowG iv w' v xs ∧ ∀ k, v.ownBlock = some k → base ≤ k ∧ k < w'.heap.size ∧ some k ≠ (Value.slice (some ⟨g, 0, none⟩) (vals.length + 1) cap).ownBlock := by
    intro v xs hv hk
    refine ⟨hv.keepB hgr (fun k e => (hk k e).2.2), fun k e => ⟨(hk k e).1, Nat.lt_of_lt_of_le (hk k e).2.1 hgr.size, ?_⟩⟩
    show some k ≠ some g
    intro e2
    have e3 := Option.some.inj e2
    subst e3
    rcases hat with h | h
    · exact (hk k e).2.2 h.symm
    · have := (hk k e).2.1
      omega
  refine ⟨vals ++ [nw], ho, by simp [h2], fun i hi hi' => ?_⟩
  by_cases hlt : i < vals.length
  · obtain ⟨k1, k2, k3⟩ := h3 i hlt (by omega)
    obtain ⟨m1, m2⟩ := key _ _ k1 k3
    simp only [List.getElem_append_left hlt, List.getElem_append_left (show i < css.length by omega)]
    exact ⟨m1, k2, m2⟩
  · have hi2 : i = vals.length := by simp at hi; omega
    subst hi2
    obtain ⟨m1, m2⟩ := key _ _ hn hnk
    have e1 : (vals ++ [nw])[vals.length] = nw := by simp
    have e2 : (css ++ [row])[vals.length]'hi' = row := by simp [h2]
    rw [e1, e2]
    exact ⟨m1, hns, m2⟩

/-- All cuts. -/
def cutsL (E : List Pr) (T : List Nat) : List (List Int) := T.map fun t => cutRow (without E T t) E (E.getD t (0, 0)).1

def CutsR (W : World) (base : Nat) (E : List Pr) (T : List Nat) (ov v : Value) (wr : World) : Prop := ∃ i : Nat, i ≤ T.length ∧ v = .int .i64 i ∧ Own2 wr base ov ((cutsL E T).take i) ∧ W.grownBy wr none

/-- What cutsOf answers. -/
def CutsE (w : World) (E : List Pr) (T : List Nat) (e : Ending) (w' : World) : Prop := ∃ v, e = .returned v ∧ Own2 w' w.heap.size v (cutsL E T) ∧ w.grownBy w' none

set_option maxHeartbeats 4000000 in
set_option maxRecDepth 10000 in
theorem cutsOf_at (n : Nat) (pv tv : Value) (ps : List Prt) (T : List Nat) (w : World) (hp : PartsAt w pv ps) (hG : Good (n : Int) ps n) (hT : RowG nv w tv T) (hTl : ∀ x ∈ T, x < ps.length) (hT16 : T.length ≤ 16) :
    Calls Tryd.prog 12 #[.agg #[.int .i64 (n : Nat), pv], tv] w fun e w' => CutsE w (prs ps) T e w' := by
  have HP := hide hp
  have HT := hide hT
  obtain ⟨ao, cap, rfl, h1, h2, h3⟩ := hp
  obtain ⟨to_, tc, rfl, t1, t2, t3⟩ := hT
  unfold maxLen at h2 t2
  have HG := hide hG
  have HTC := hide t3
  have HTL := hide hTl
  have g3 := hG.len
  have g2 := hG.hi
  clear h3 t3 hTl hG
  have hcl : (cutsL (prs ps) T).length = T.length := by simp [cutsL]
  have HCL := hide hcl
  clear hcl
  go_enter Tryd.func12, Tryd.ntmps12
  go_wp2
  obtain ⟨Wa, hWa⟩ : ∃ W, W = w.alloc (Obj.cells #[.int .i64 (n : Nat), .slice ao ps.length cap] 24) := ⟨_, rfl⟩
  have GW : Hid (w.grownBy Wa none) := by rw [hWa]; exact gr_alloc (gr_refl _ _) _
  have RES : Hid (∀ wr : World, Wa.grownBy wr none → wr.cell? ⟨w.heap.size, 0, none⟩ = some (.int .i64 (n : Nat)) ∧ wr.cell? ⟨w.heap.size, 1, none⟩ = some (.slice ao ps.length cap)) := by
    intro wr hg
    rw [hWa] at hg
    exact ⟨hg.cell (by go_simp) (by simp), hg.cell (by go_simp) (by simp)⟩
  have hws : w.heap.size < Wa.heap.size := by rw [hWa]; simp
  simp only [← hWa]
  clear hWa
  go_loopw [5, 11] (fun ov v wr => Hid (CutsR Wa Wa.heap.size (prs ps) T ov v wr)) (fun _ v _ => T.length - (intOf v).toNat)
  case atStart => exact ⟨0, by omega, rfl, own2_nil, gr_refl _ _⟩
  case round =>
    obtain ⟨i, hi, rfl, l1, l2⟩ := hrel.out
    have L1 := hide l1
    have L2 := hide l2
    obtain ⟨vals, v1, v2, v3⟩ := l1
    obtain ⟨oo, oc, ev⟩ := v1.shape
    subst ev
    obtain ⟨m0, m1⟩ := RES.out wr l2
    have V1 := hide v1
    have V2 := hide v2
    have V3 := hide v3
    clear l2 hrel v1 v2 v3
    have hvl : vals.length = i := by rw [V2.out, List.length_take, HCL.out]; omega
    have HVL := hide hvl
    clear hvl
    by_cases hlt : i < T.length
    · obtain ⟨tb, toff, rfl, htb, htc⟩ := HTC.out i hlt
      have htl := HTL.out T[i] (List.getElem_mem hlt)
      have qt := (gr_none GW.out L2.out).cell htc (by simp)
      have hct : (cutsL (prs ps) T).take (i + 1) = (cutsL (prs ps) T).take i ++ [cutRow (without (prs ps) T T[i]) (prs ps) ((prs ps).getD T[i] (0, 0)).1] := by
        rw [List.take_succ_eq_append_getElem (by rw [HCL.out]; exact hlt)]
        simp [cutsL]
      have HCT := hide hct
      generalize T[i] = x at qt htl HCT
      clear htc hct HTC
      go_wp2_with fail
      refine (sideOf_at n _ _ ps T x _ (HP.out.keep (gr_none GW.out L2.out)) HG.out (HT.out.keep (gr_none GW.out L2.out)) HTL.out hT16 htl).mono ?_
      intro e w3 hS
      obtain ⟨gs, rfl, s1, s2⟩ := hS
      have S1 := hide s1
      have S2 := hide s2
      have n0 := s2.cell m0 (by simp)
      have n1 := s2.cell m1 (by simp)
      have hsz3 : w.heap.size < w3.heap.size := by have := L2.out.size; have := s2.size; omega
      clear s1 s2 HTL m0 m1 qt
      go_wp2_with fail
      have gbx : Hid (wr.grownBy (w3.alloc (Obj.cells #[.slice (some ⟨gs, 0, none⟩) n n] 32)) none) := gr_alloc S2.out _
      refine (tellEach_at n w3.heap.size gs ((prs ps).getD x (0, 0)).1 _ ps (without (prs ps) T x) _ (HP.out.keep (gr_none GW.out (gr_none L2.out gbx.out))) HG.out (S1.out.keep0 (gr_alloc (gr_refl _ _) _)) (by go_simp) (by simp)).mono ?_
      intro e w4 hTe
      obtain ⟨rv, rfl, r1, r2, r3⟩ := hTe
      obtain ⟨ro, rc, re, _⟩ := r1
      subst re
      have r1' : RowG iv w4 (.slice ro (cutRow (without (prs ps) T x) (prs ps) ((prs ps).getD x (0, 0)).1).length rc) (cutRow (without (prs ps) T x) (prs ps) ((prs ps).getD x (0, 0)).1) := ⟨ro, rc, rfl, ‹_›⟩
      have R1 := hide r1'
      have R2 := hide (gr_none gbx.out r2)
      have R3 := hide r3
      have hR2 := (gr_none gbx.out r2).size
      have hL2 := L2.out.size
      generalize cutRow (without (prs ps) T x) (prs ps) ((prs ps).getD x (0, 0)).1 = row at R1 HCT R3 ⊢
      clear r1' r2 r3 n0 n1
      go_wp2_with (at_builtin; refine wpList_append_gl id 32 (.slice none 0 0) 24 _ rfl _ _ 26 rfl Wa.heap.size Tryd.underlying26 Tryd.infoInts rfl _ vals rfl (V1.out.keep0 (gr_alloc R2.out _)) w4.heap.size (.slice ro row.length rc) rfl (by go_simp) rfl (by rw [HVL.out]; omega) (by omega) (by simp; omega) ?_)
      intro g' cap' w5 o1 o2 o3
      have O1 := hide o1
      have O2 := hide o2
      have O3 := hide o3
      clear o1 o2 o3
      go_wp2
      go_roundw
      case rel =>
        have hgr2 := gr_trans (r := (Value.slice oo vals.length oc).ownBlock) (r1 := none) (gr_alloc (gr_refl w4 none) _) O2.out (fun _ _ e => by cases e) (fun _ _ e => e)
        have hownb : ∀ k, (Value.slice oo vals.length oc).ownBlock = some k → Wa.heap.size ≤ k ∧ k < wr.heap.size := fun k hk => V1.out.fresh k hk
        refine ⟨i + 1, by omega, by go_num, ?_, ?_⟩
        · rw [HCT.out]
          refine Own2.snoc (w1 := w4) (w := w4) (vals := vals) (ov := .slice oo vals.length oc) V2.out ?_ R1.out ⟨_, _, _, rfl⟩ ?_ O1.out hgr2 ?_
          · intro j hj hj'
            obtain ⟨k1, k2, k3⟩ := V3.out j hj hj'
            exact ⟨k1.keep R2.out, k2, fun k hk => ⟨(k3 k hk).1, Nat.lt_of_lt_of_le (k3 k hk).2.1 hR2, (k3 k hk).2.2⟩⟩
          · intro k hk
            obtain ⟨a1, a2⟩ := R3.out k hk
            have hgz := gbx.out.size
            refine ⟨by omega, a2, fun e => ?_⟩
            have := (hownb k e.symm).2
            omega
          · rcases O3.out with h | h
            · exact .inl h
            · right
              rw [h]
              simp
        · exact gr_trans (gr_none L2.out R2.out) hgr2 (fun _ _ e => e) (fun b hb e => by have := (hownb b e.symm).1; omega)
      case measure => simp [intOf]; omega
    · have htk : (cutsL (prs ps) T).take i = cutsL (prs ps) T := List.take_of_length_le (by rw [HCL.out]; omega)
      have HTK := hide htk
      clear htk HTC HTL
      go_wp2
      go_ret
      refine ⟨_, rfl, ?_, gr_none GW.out L2.out⟩
      have h5 := L1.out
      rw [HTK.out] at h5
      obtain ⟨vs, o1, o2, o3⟩ := h5
      refine ⟨vs, ⟨o1.1, ?_⟩, o2, fun i hi hi' => ⟨(o3 i hi hi').1, (o3 i hi hi').2.1, fun k hk => ⟨by have := ((o3 i hi hi').2.2 k hk).1; omega, ((o3 i hi hi').2.2 k hk).2⟩⟩⟩
      rcases o1.2 with h | ⟨g, cap', cur, e, hb, rest⟩
      · exact .inl h
      · exact .inr ⟨g, cap', cur, e, by omega, rest⟩
end Go.Proofs.YtfhamfgcjdhmdaaDoor
