/- net: Tree. -/
import Derived.Test.YtfhamfgcjdhmdaaDoorNIsl
namespace Go.Proofs.YtfhamfgcjdhmdaaDoor
open Go.RowKit
set_option linter.unusedVariables false

/-- Pairs by their numbers. -/
def sel (E : List Pr) (T : List Nat) : List Pr := T.map fun i => E.getD i (0, 0)

/-- The tree of the first k pairs. -/
def treeUpto (E : List Pr) : Nat → List Nat
  | 0 => []
  | k + 1 => if labF (sel E (treeUpto E k)) (E.getD k (0, 0)).1 = labF (sel E (treeUpto E k)) (E.getD k (0, 0)).2 then treeUpto E k else treeUpto E k ++ [k]

def treeOf (E : List Pr) : List Nat := treeUpto E E.length

/-- A slice of one-cell values that the call itself made. -/
def OwnG {α : Type} (f : α → Value) (t : TypeId) (w : World) (base : Nat) (v : Value) (xs : List α) : Prop := w.ownsRow base t 1 v xs.length (xs.map f)

/-- A slice of one-cell values. -/
def RowG {α : Type} (f : α → Value) (w : World) (v : Value) (xs : List α) : Prop := ∃ ao cap, v = .slice ao xs.length cap ∧ xs.length ≤ cap ∧ cap ≤ maxLen ∧ ∀ i (h : i < xs.length), ∃ b off, ao = some ⟨b, off, none⟩ ∧ b < w.heap.size ∧ w.cell? ⟨b, off + i, none⟩ = some (f xs[i])

theorem RowG.keep {α : Type} {f : α → Value} {w w' : World} {v : Value} {xs : List α} (h : RowG f w v xs) (hg : w.grownBy w' none) : RowG f w' v xs := by
  obtain ⟨ao, cap, e, h1, h2, h3⟩ := h
  refine ⟨ao, cap, e, h1, h2, fun i hi => ?_⟩
  obtain ⟨b, off, e, hb, c⟩ := h3 i hi
  exact ⟨b, off, e, Nat.lt_of_lt_of_le hb hg.size, hg.cell c (by simp)⟩

theorem RArr.row {α : Type} {f : α → Value} {t : TypeId} {w : World} {g : Nat} {xs : List α} (h : RArr f t w g xs) (hm : xs.length ≤ maxLen) : RowG f w (.slice (some ⟨g, 0, none⟩) xs.length xs.length) xs :=
  ⟨_, _, rfl, Nat.le_refl _, hm, fun i hi => ⟨g, 0, rfl, h.lt, by rw [Nat.zero_add]; exact h.cell i hi⟩⟩

section
variable {α : Type} {f : α → Value} {t : TypeId} {w w' : World} {base : Nat} {v : Value} {xs : List α}
theorem ownG_nil : OwnG f t w base (.slice none 0 0) [] := World.ownsRow_nil _ _ _ _
theorem OwnG.row (h : OwnG f t w base v xs) : RowG f w v xs := by
  rcases h.2 with ⟨rfl, h0⟩ | ⟨g, cap, cur, rfl, hb, hh, h1, h2, h3, h4⟩
  · have : xs = [] := List.eq_nil_of_length_eq_zero h0
    subst this
    exact ⟨none, 0, rfl, by simp, by simp, fun i hi => by simp at hi⟩
  · refine ⟨_, cap, rfl, h1, h2, fun i hi => ⟨g, 0, rfl, (Array.getElem?_eq_some_iff.1 hh).1, ?_⟩⟩
    rw [Nat.zero_add]
    simp only [World.cell?, hh]
    have h5 : (cur.toList.take (xs.length * 1))[i]? = (xs.map f)[i]? := by rw [h4]
    rw [List.getElem?_take, if_pos (by omega)] at h5
    simpa [hi] using h5
theorem OwnG.fresh (h : OwnG f t w base v xs) : ∀ k, v.ownBlock = some k → base ≤ k ∧ k < w.heap.size := World.ownsRow.lt h
theorem OwnG.keep {row : Option Nat} (h : OwnG f t w base v xs) (hg : w.grownBy w' row) (hne : v.ownBlock = none ∨ v.ownBlock ≠ row) : OwnG f t w' base v xs := World.ownsRow.kept h hg hne
theorem OwnG.keep0 (h : OwnG f t w base v xs) (hg : w.grownBy w' none) : OwnG f t w' base v xs := h.keep hg (by cases hv : v.ownBlock <;> simp)
theorem OwnG.keepB {g : Nat} (h : OwnG f t w base v xs) (hg : w.grownBy w' (some g)) (hb : g < base) : OwnG f t w' base v xs := by
  refine h.keep hg ?_
  cases hv : v.ownBlock with
  | none => exact .inl rfl
  | some k =>
    right
    intro e
    have := (h.fresh k hv).1
    cases e
    omega
theorem OwnG.shape (h : OwnG f t w base v xs) : ∃ ao cap, v = .slice ao xs.length cap := by
  obtain ⟨ao, cap, e, _⟩ := h.row
  exact ⟨ao, cap, e⟩
end

/-- 'out = append(out, y)', y of one cell. -/
theorem wpList_append_g {P : Program} {α : Type} (f : α → Value) (e : TypeId) (z0 : Value) (by_ : Nat) (W : World) {ops : Array Oper} {rest : List Oper} {o : Oper} {a : Act} {Q : Exit → Act → World → Prop}
    (hg : o.guard = none) (s x : Operand) (t : TypeId) (ho : o.op = .call { callee := .builtin .append, args := #[s, x], argTypes := #[t, t] }) (base : Nat)
    (h1 : P.underlying t = some (.slice e)) (hinfo : (P.info? e).map (fun i => (i.zero, i.size, i.bytes)) = some (some z0, 1, by_)) (hcz : z0.cells.size = 1)
    (v : Value) (xs : List α) (hs : a.eval s = v) (hown : OwnG f e W base v xs) (b : Nat) (y : α) (hx : a.eval x = .slice (some ⟨b, 0, none⟩) 1 1) (hc : W.cell? ⟨b, 0, none⟩ = some (f y)) (h1c : (f y).oneCell' = true)
    (hlen : xs.length ≤ 1000000) (hby : by_ ≤ 24) (hbase : base ≤ W.heap.size)
    (hK : ∀ ao cap w', OwnG f e w' base (.slice ao (xs.length + 1) cap) (xs ++ [y]) → W.grownBy w' v.ownBlock → wpList P ops Q rest (a.put o.dst (.slice ao (xs.length + 1) cap)) w') : wpList P ops Q (o :: rest) a W := by
  obtain ⟨i, hi, hz0, hz1, hz2⟩ := info_parts hinfo
  refine wpList_append_own W hg s x t ho base e i z0 1 by_ h1 hi hz0 hz1 hz2 hcz (by decide) v xs.length (xs.map f) hs hown ⟨b, 0, none⟩ 1 1 [f y] hx rfl ?_ ?_ (by unfold maxLen; omega) ?_ hbase ?_
  · intro j u hj
    match j with
    | 0 =>
      simp only [List.getElem?_cons_zero, Option.some.injEq] at hj
      subst hj
      simpa [Addr.add] using hc
    | j + 1 => simp at hj
  · intro u hu
    simp only [List.mem_singleton] at hu
    subst hu
    exact h1c
  · have : (xs.length + 1) * by_ ≤ (1000000 + 1) * 24 := Nat.mul_le_mul (by omega) hby
    omega
  · intro v' w' hown' hgr _
    have h2 : OwnG f e w' base v' (xs ++ [y]) := by
      unfold OwnG
      rw [List.length_append, List.map_append]
      exact hown'
    obtain ⟨ao, cap, rfl⟩ := h2.shape
    rw [List.length_append, List.length_singleton] at h2 ⊢
    exact hK ao cap w' h2 hgr

def TreeR (W : World) (g base n : Nat) (E : List Pr) (ov v : Value) (wr : World) : Prop :=
  ∃ i : Nat, i ≤ E.length ∧ v = .int .i64 i ∧ IArr wr g (labs n (labF (sel E (treeUpto E i)))) ∧ OwnG (fun x : Nat => iv x) 3 wr base ov (treeUpto E i) ∧ W.grownBy wr none ∧ base ≤ wr.heap.size

/-- What Tree answers of a right net. -/
def TreeE (w : World) (ps : List Prt) (e : Ending) (w' : World) : Prop := ∃ v, e = .returned (.tuple #[v, .agg #[.int .i64 0, .int .i64 0]]) ∧ RowG (fun x : Nat => iv x) w' v (treeOf (prs ps)) ∧ w.grownBy w' none

theorem prs_get {ps : List Prt} {i : Nat} (h : i < ps.length) : (prs ps).getD i (0, 0) = (ps[i].a.toNat, ps[i].b.toNat) := by
  simp [prs, List.getD, h]

theorem treeUpto_len (E : List Pr) (k : Nat) : (treeUpto E k).length ≤ k := by
  induction k with
  | zero => simp [treeUpto]
  | succ k ih =>
    unfold treeUpto
    split
    · omega
    · simp; omega

set_option maxHeartbeats 4000000 in
set_option maxRecDepth 10000 in
theorem tree_ok (nodes : Int) (pv : Value) (ps : List Prt) (n : Nat) (w : World) (hb : Base w) (hp : PartsAt w pv ps) (hG : Good nodes ps n) (hC : checkN nodes ps = (0, 0)) :
    Calls Tryd.prog 8 #[.agg #[.int .i64 nodes, pv]] w fun e w' => TreeE w ps e w' := by
  obtain ⟨i0, hi0, hz0, hz1, hz2⟩ := info_parts Tryd.infoInt
  have HB := hide hb
  have HP := hide hp
  obtain ⟨ao, cap, rfl, h1, h2, h3⟩ := hp
  unfold maxLen at h2
  obtain ⟨rfl, g1, g2, g3, g4⟩ := hG
  have HE := hide g4
  have HPC := hide h3
  have HCK := hide hC
  clear h3 hb g4 hC
  go_enter Tryd.func8, Tryd.ntmps8
  go_wp2_with fail
  have gW : w.grownBy ((w.alloc (Obj.cells #[.int .i64 (n : Nat), .slice ao ps.length cap] 24)).alloc (Obj.cells #[.int .i64 0, .int .i64 0] 29)) none := gr_alloc (gr_alloc (gr_refl _ _) _) _
  have GW := hide gW
  clear gW
  refine (Check_at (n : Nat) _ ps _ (HB.out.keep GW.out) (HP.out.keep GW.out)).mono ?_
  intro e w1 hE
  obtain ⟨rfl, k1⟩ := hE
  rw [HCK.out]
  have K1 := hide k1
  have b0 := k1.cell (a := ⟨w.heap.size, 0, none⟩) (v := .int .i64 (n : Nat)) (by go_simp) (by simp)
  have b1 := k1.cell (a := ⟨w.heap.size, 1, none⟩) (v := .slice ao ps.length cap) (by go_simp) (by simp)
  have hsz : w.heap.size + 1 < w1.heap.size := by have := k1.size; simp at this; omega
  have hsz0 : w.heap.size < w1.heap.size := by omega
  clear k1
  obtain ⟨Wa, hWa⟩ : ∃ W, W = (w.alloc (Obj.cells #[.int .i64 (n : Nat), .slice ao ps.length cap] 24)).alloc (Obj.cells #[.int .i64 0, .int .i64 0] 29) := ⟨_, rfl⟩
  rw [← hWa] at K1 GW
  have RES : Hid (∀ wr : World, Wa.grownBy wr none → wr.cell? ⟨w.heap.size + 1, 0, none⟩ = some (.int .i64 0) ∧ wr.cell? ⟨w.heap.size + 1, 1, none⟩ = some (.int .i64 0) ∧ (∀ i, wr.frozen? ⟨w.heap.size + 1, i, none⟩ = false) ∧ wr.cell? ⟨w.heap.size, 0, none⟩ = some (.int .i64 (n : Nat)) ∧ wr.cell? ⟨w.heap.size, 1, none⟩ = some (.slice ao ps.length cap)) := by
    intro wr hg
    rw [hWa] at hg
    have := res_two hg
    refine ⟨by simpa using this.1, by simpa using this.2.1, by simpa using this.2.2, hg.cell (by go_simp) (by simp), hg.cell (by go_simp) (by simp)⟩
  have hWs : Wa.heap.size = w.heap.size + 2 := by rw [hWa]; simp
  have HWS := hide hWs
  clear hWa hWs
  go_wp2_with fail
  refine (apart_at n _ g2).mono ?_
  rintro e w2 ⟨rfl, a1, a2⟩
  have A1 := hide a1
  have A2 := hide (gr_none (gr_alloc K1.out _) a2)
  have hgs : Wa.heap.size ≤ (w1.alloc (Obj.cells #[Value.int IntKind.i64 0, Value.int IntKind.i64 0] 29)).heap.size := (gr_alloc K1.out _).size
  generalize (w1.alloc (Obj.cells #[Value.int IntKind.i64 0, Value.int IntKind.i64 0] 29)).heap.size = g at *
  have hgb : g < w2.heap.size := a1.lt
  obtain ⟨_, _, _, n0, n1⟩ := RES.out w2 A2.out
  clear a1 a2 b0 b1
  go_wp2
  obtain ⟨base, hbase⟩ : ∃ b, b = w2.heap.size := ⟨_, rfl⟩
  rw [← hbase] at hgb
  have HBASE := hide hbase
  clear hbase
  have hpl : (prs ps).length = ps.length := by simp [prs]
  have HPL := hide hpl
  clear hpl
  go_loopw [5, 21] (fun ov v wr => Hid (TreeR Wa g base n (prs ps) ov v wr)) (fun _ v _ => ps.length - (intOf v).toNat)
  case atStart => exact ⟨0, by omega, rfl, A1.out, ownG_nil, A2.out, by rw [HBASE.out]; exact Nat.le_refl _⟩
  case round =>
    obtain ⟨i, hi, rfl, l1, l2, l3, l4⟩ := hrel.out
    rw [HPL.out] at hi
    obtain ⟨oo, oc, ev⟩ := l2.shape
    subst ev
    have L1 := hide l1
    have L2 := hide l2
    have L3 := hide l3
    have htl := treeUpto_len (prs ps) i
    obtain ⟨r0, r1, rf, _, _⟩ := RES.out wr l3
    have rf0 := rf 0
    have rf1 := rf 1
    clear l1 l2 l3 hrel rf n0 n1 A1
    by_cases hlt : i < ps.length
    · obtain ⟨b, off, rfl, hb, c0, c1, c2, c3, c4, c5, c6⟩ := HPC.out i hlt
      have hgg := gr_none GW.out L3.out
      obtain ⟨ea, eb, e1, e2, e3, e4⟩ := HE.out i hlt
      have q0 := hgg.cell c0 (by simp)
      have q1 := hgg.cell c1 (by simp)
      have q2 := hgg.cell c2 (by simp)
      have q3 := hgg.cell c3 (by simp)
      have q4 := hgg.cell c4 (by simp)
      have q5 := hgg.cell c5 (by simp)
      have hpt := prs_get (ps := ps) hlt
      rw [e1, e2, Int.toNat_natCast, Int.toNat_natCast] at hpt
      rw [e1] at q1
      rw [e2] at q2
      have HPT := hide hpt
      have la := L1.out.cell ea (by rw [labs_length]; exact e3)
      have lb := L1.out.cell eb (by rw [labs_length]; exact e4)
      rw [labs_get] at la lb
      have hgw := L1.out.lt
      generalize ps[i].kind = z0 at q0
      generalize ps[i].c = z3 at q3
      generalize ps[i].d = z4 at q4
      generalize ps[i].v = z5 at q5
      clear c0 c1 c2 c3 c4 c5 c6 hgg e1 e2 hpt HPC
      by_cases heq : labF (sel (prs ps) (treeUpto (prs ps) i)) ea = labF (sel (prs ps) (treeUpto (prs ps) i)) eb
      · have HEQ := hide heq
        rw [heq] at la
        generalize labF (sel (prs ps) (treeUpto (prs ps) i)) eb = x at la lb
        clear heq
        go_wp2
        go_quiet (fail)
        go_wp2
        go_roundw
        case rel =>
          have et : treeUpto (prs ps) (i + 1) = treeUpto (prs ps) i := by
            show (if _ then _ else _) = _
            rw [HPT.out, if_pos HEQ.out]
          refine ⟨i + 1, by rw [HPL.out]; omega, by go_num, ?_, ?_, gr_drewN (gr_alloc L3.out _) _, by simp; omega⟩
          · rw [et]; exact L1.out.keep0 (gr_drewN (gr_alloc (gr_refl _ _) _) _)
          · rw [et]; exact L2.out.keep0 (gr_drewN (gr_alloc (gr_refl _ _) _) _)
        case measure => simp [intOf]; omega
      · have HEQ := hide heq
        have hne : (((labF (sel (prs ps) (treeUpto (prs ps) i)) ea : Nat) : Int) != ((labF (sel (prs ps) (treeUpto (prs ps) i)) eb : Nat) : Int)) = true := by
          rw [bne_iff_ne]; omega
        generalize labF (sel (prs ps) (treeUpto (prs ps) i)) ea = x at la hne
        generalize labF (sel (prs ps) (treeUpto (prs ps) i)) eb = y at lb hne
        clear heq
        go_wp2
        go_quiet (fail)
        go_wp2_with fail
        refine (join_lab g n n (sel (prs ps) (treeUpto (prs ps) i)) ea eb _ g2 e3 e4 (L1.out.keep0 (gr_drewN (gr_alloc (gr_refl _ _) _) _)) (by omega) (by unfold maxLen; omega)).mono ?_
        rintro e w3 ⟨rfl, j1, j2⟩
        have et : treeUpto (prs ps) (i + 1) = treeUpto (prs ps) i ++ [i] := by
          show (if _ then _ else _) = _
          rw [HPT.out, if_neg HEQ.out]
        have ET := hide et
        have J1 : Hid (IArr w3 g (labs n (labF (sel (prs ps) (treeUpto (prs ps) (i + 1)))))) := by
          rw [et]
          have : sel (prs ps) (treeUpto (prs ps) i ++ [i]) = sel (prs ps) (treeUpto (prs ps) i) ++ [(ea, eb)] := by
            simp only [sel, List.map_append, List.map_cons, List.map_nil]
            rw [HPT.out]
          rw [this]
          exact j1
        have J2 := hide (gr_in (gr_drewN (gr_alloc L3.out _) _) j2 hgs)
        have J3 := hide ((L2.out.keep0 (gr_drewN (gr_alloc (gr_refl _ _) _) _)).keepB j2 hgb)
        have hb3 : base ≤ w3.heap.size := by
          have := j2.size
          simp at this
          omega
        have hbig : (treeUpto (prs ps) i).length ≤ 16 := by omega
        clear j1 j2 et la lb L1 L2 htl
        go_wp2_with (at_builtin; refine wpList_append_g (fun x : Nat => iv x) 3 (iv 0) 8 _ rfl _ _ 32 rfl base Tryd.underlying32 Tryd.infoInt rfl _ (treeUpto (prs ps) i) rfl (J3.out.keep0 (gr_alloc (gr_refl _ _) _)) w3.heap.size i rfl (by go_simp) rfl (by omega) (by omega) (by simp; omega) ?_)
        intro ao' cap' w4 o1 o2
        have O1 := hide o1
        have O2 := hide o2
        clear o1 o2
        go_wp2
        go_roundw
        case rel =>
          have hown : Hid (∀ k, (Value.slice oo (treeUpto (prs ps) i).length oc).ownBlock = some k → base ≤ k) := fun k hk => (J3.out.fresh k hk).1
          have hgr2 : w3.grownBy w4 (Value.slice oo (treeUpto (prs ps) i).length oc).ownBlock := gr_trans (r1 := none) (gr_alloc (gr_refl _ _) _) O2.out (fun _ _ e => by cases e) (fun _ _ e => e)
          have hWb : Wa.heap.size ≤ base := by omega
          refine ⟨i + 1, by rw [HPL.out]; omega, by go_num, ?_, ?_, ?_, ?_⟩
          · refine J1.out.keep hgr2 ?_
            intro e
            have := hown.out g e.symm
            omega
          · rw [ET.out]
            exact O1.out
          · exact gr_trans J2.out hgr2 (fun _ _ e => e) (fun b hb e => by have := hown.out b e.symm; omega)
          · exact Nat.le_trans hb3 hgr2.size
        case measure => simp [intOf]; omega
    · have hie : i = (prs ps).length := by rw [HPL.out]; omega
      have HIE := hide hie
      clear hie HPC
      go_wp2
      refine bodyPost_ret (v := .tuple #[.slice oo (treeUpto (prs ps) i).length oc, .agg #[.int .i64 0, .int .i64 0]]) (by simp [results, Tryd.results8, go_sem, r0, r1]) rfl ?_
      have hrow := L2.out
      have hne : ∀ x y, wr.grownBy ((wr.setCell ⟨w.heap.size + 1, 0, none⟩ x).setCell ⟨w.heap.size + 1, 1, none⟩ y) (some (w.heap.size + 1)) := fun x y => gr_row (gr_row (gr_refl _ _) _ 0 _ rfl) _ 1 _ rfl
      refine ⟨_, rfl, ?_, gr_set (gr_set (gr_none GW.out L3.out) _ _ (by simp)) _ _ (by simp)⟩
      have h5 := (hrow.keepB (hne (.int .i64 0) (.int .i64 0)) (by have := HWS.out; omega)).row
      unfold treeOf
      rw [← HIE.out]
      exact h5
end Go.Proofs.YtfhamfgcjdhmdaaDoor
