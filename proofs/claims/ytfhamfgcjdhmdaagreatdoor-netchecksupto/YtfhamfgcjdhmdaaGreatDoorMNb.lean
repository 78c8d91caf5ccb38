/- net: Tree. -/
import Derived.Test.YtfhamfgcjdhmdaaGreatDoorMNa
import Derived.Deep.RegionHeld3
import Derived.Deep.AppendLies
namespace Go.Proofs.YtfhamfgcjdhmdaaGreatDoor
open Go.RowKit
set_option linter.unusedVariables false

/-- Pairs by their numbers. -/
def sel (E : List Pr) (T : List Nat) : List Pr := T.map fun i => E.getD i (0, 0)

/-- The tree of the first k pairs. -/
def treeUpto (E : List Pr) : Nat → List Nat
  | 0 => []
  | k + 1 => if labF (sel E (treeUpto E k)) (E.getD k (0, 0)).1 = labF (sel E (treeUpto E k)) (E.getD k (0, 0)).2 then treeUpto E k else treeUpto E k ++ [k]

def treeOf (E : List Pr) : List Nat := treeUpto E E.length

/-- A slice of one-cell values that the call itself made. -/
def OwnG {α : Type} (f : α → Value) (t : TypeId) (w : World) (base : Nat) (v : Value) (xs : List α) : Prop := w.ownsRow base t 1 v xs.length (xs.map f)

/-- A slice of one-cell values. -/
def RowG {α : Type} (f : α → Value) (w : World) (v : Value) (xs : List α) : Prop := ∃ ao cap, v = .slice ao xs.length cap ∧ xs.length ≤ cap ∧ cap ≤ maxLen ∧ ∀ i (h : i < xs.length), ∃ b off, ao = some ⟨b, off, none⟩ ∧ b < w.heap.size ∧ w.cell? ⟨b, off + i, none⟩ = some (f xs[i])

theorem RowG.keep {α : Type} {f : α → Value} {w w' : World} {v : Value} {xs : List α} (h : RowG f w v xs) (hg : w.grownBy w' none) : RowG f w' v xs := by
  obtain ⟨ao, cap, e, h1, h2, h3⟩ := h
  refine ⟨ao, cap, e, h1, h2, fun i hi => ?_⟩
  obtain ⟨b, off, e, hb, c⟩ := h3 i hi
  exact ⟨b, off, e, Nat.lt_of_lt_of_le hb hg.size, hg.cell c (by simp)⟩

theorem RArr.row {α : Type} {f : α → Value} {t : TypeId} {w : World} {g : Nat} {xs : List α} (h : RArr f t w g xs) (hm : xs.length ≤ maxLen) : RowG f w (.slice (some ⟨g, 0, none⟩) xs.length xs.length) xs :=
  ⟨_, _, rfl, Nat.le_refl _, hm, fun i hi => ⟨g, 0, rfl, h.lt, by rw [Nat.zero_add]; exact h.cell i hi⟩⟩

section
variable {α : Type} {f : α → Value} {t : TypeId} {w w' : World} {base : Nat} {v : Value} {xs : List α}
theorem ownG_nil : OwnG f t w base (.slice none 0 0) [] := World.ownsRow_nil _ _ _ _
theorem OwnG.row (h : OwnG f t w base v xs) : RowG f w v xs := by
  rcases h.2 with ⟨rfl, h0⟩ | ⟨g, cap, cur, rfl, hb, hh, h1, h2, h3, h4⟩
  · have : xs = [] := List.eq_nil_of_length_eq_zero h0
    subst this
    exact ⟨none, 0, rfl, by simp, by simp, fun i hi => by simp at hi⟩
  · refine ⟨_, cap, rfl, h1, h2, fun i hi => ⟨g, 0, rfl, (Array.getElem?_eq_some_iff.1 hh).1, ?_⟩⟩
    rw [Nat.zero_add]
    simp only [World.cell?, hh]
    have h5 : (cur.toList.take (xs.length * 1))[i]? = (xs.map f)[i]? := by rw [h4]
    rw [List.getElem?_take, if_pos (by omega)] at h5
    simpa [hi] using h5
theorem OwnG.fresh (h : OwnG f t w base v xs) : ∀ k, v.ownBlock = some k → base ≤ k ∧ k < w.heap.size := World.ownsRow.lt h
theorem OwnG.keep {row : Option Nat} (h : OwnG f t w base v xs) (hg : w.grownBy w' row) (hne : v.ownBlock = none ∨ v.ownBlock ≠ row) : OwnG f t w' base v xs := World.ownsRow.kept h hg hne
theorem OwnG.keep0 (h : OwnG f t w base v xs) (hg : w.grownBy w' none) : OwnG f t w' base v xs := h.keep hg (by cases hv : v.ownBlock <;> simp)
theorem OwnG.keepB {g : Nat} (h : OwnG f t w base v xs) (hg : w.grownBy w' (some g)) (hb : g < base) : OwnG f t w' base v xs := by
  refine h.keep hg ?_
  cases hv : v.ownBlock with
  | none => exact .inl rfl
  | some k =>
    right
    intro e
    have := (h.fresh k hv).1
    cases e
    omega
theorem OwnG.shape (h : OwnG f t w base v xs) : ∃ ao cap, v = .slice ao xs.length cap := by
  obtain ⟨ao, cap, e, _⟩ := h.row
  exact ⟨ao, cap, e⟩
end

/-- 'out = append(out, y)', y of one cell. -/
theorem wpList_append_g {P : Program} {α : Type} (f : α → Value) (e : TypeId) (z0 : Value) (by_ : Nat) (W : World) {ops : Array Oper} {rest : List Oper} {o : Oper} {a : Act} {Q : Exit → Act → World → Prop}
    (hg : o.guard = none) (s x : Operand) (t : TypeId) (ho : o.op = .call { callee := .builtin .append, args := #[s, x], argTypes := #[t, t] }) (base : Nat)
    (h1 : P.underlying t = some (.slice e)) (hinfo : (P.info? e).map (fun i => (i.zero, i.size, i.bytes)) = some (some z0, 1, by_)) (hcz : z0.cells.size = 1)
    (v : Value) (xs : List α) (hs : a.eval s = v) (hown : OwnG f e W base v xs) (b : Nat) (y : α) (hx : a.eval x = .slice (some ⟨b, 0, none⟩) 1 1) (hc : W.cell? ⟨b, 0, none⟩ = some (f y)) (h1c : (f y).oneCell' = true)
    (hlen : xs.length ≤ 1000000) (hby : by_ ≤ 24) (hbase : base ≤ W.heap.size)
    (hK : ∀ ao cap w', OwnG f e w' base (.slice ao (xs.length + 1) cap) (xs ++ [y]) → W.grownBy w' v.ownBlock → wpList P ops Q rest (a.put o.dst (.slice ao (xs.length + 1) cap)) w') : wpList P ops Q (o :: rest) a W := by
  obtain ⟨i, hi, hz0, hz1, hz2⟩ := info_parts hinfo
  refine wpList_append_own W hg s x t ho base e i z0 1 by_ h1 hi hz0 hz1 hz2 hcz (by decide) v xs.length (xs.map f) hs hown ⟨b, 0, none⟩ 1 1 [f y] hx rfl ?_ ?_ (by unfold maxLen; omega) ?_ hbase ?_
  · intro j u hj
    match j with
    | 0 =>
      simp only [List.getElem?_cons_zero, Option.some.injEq] at hj
      subst hj
      simpa [Addr.add] using hc
    | j + 1 => simp at hj
  · intro u hu
    simp only [List.mem_singleton] at hu
    subst hu
    exact h1c
  · have : (xs.length + 1) * by_ ≤ (1000000 + 1) * 24 := Nat.mul_le_mul (by omega) hby
    omega
  · intro v' w' hown' hgr _
    have h2 : OwnG f e w' base v' (xs ++ [y]) := by
      unfold OwnG
      rw [List.length_append, List.map_append]
      exact hown'
    obtain ⟨ao, cap, rfl⟩ := h2.shape
    rw [List.length_append, List.length_singleton] at h2 ⊢
    exact hK ao cap w' h2 hgr

def TreeR (W : World) (g base n : Nat) (E : List Pr) (ov v : Value) (wr : World) : Prop :=
  ∃ i : Nat, i ≤ E.length ∧ v = .int .i64 i ∧ IArr wr g (labs n (labF (sel E (treeUpto E i)))) ∧ OwnG (fun x : Nat => iv x) 3 wr base ov (treeUpto E i) ∧ W.grownBy wr none ∧ base ≤ wr.heap.size

/-- What Tree answers of a right net. -/
def TreeE (w : World) (ps : List Prt) (e : Ending) (w' : World) : Prop := ∃ v, e = .returned (.tuple #[v, .agg #[.int .i64 0, .int .i64 0]]) ∧ RowG (fun x : Nat => iv x) w' v (treeOf (prs ps)) ∧ w.grownBy w' none

theorem prs_get {ps : List Prt} {i : Nat} (h : i < ps.length) : (prs ps).getD i (0, 0) = (ps[i].a.toNat, ps[i].b.toNat) := by
  simp [prs, List.getD, h]

theorem treeUpto_len (E : List Pr) (k : Nat) : (treeUpto E k).length ≤ k := by
  induction k with
  | zero => simp [treeUpto]
  | succ k ih =>
    unfold treeUpto
    split
    · omega
    · simp; omega

set_option maxHeartbeats 4000000 in
set_option maxRecDepth 10000 in
theorem tree_ok (nodes : Int) (pv : Value) (ps : List Prt) (n : Nat) (w : World) (hb : Base w) (hp : PartsAt w pv ps) (hG : Good nodes ps n) (hC : checkN nodes ps = (0, 0)) :
    Calls Tryz.prog 20 #[.agg #[.int .i64 nodes, pv]] w fun e w' => TreeE w ps e w' := by
  obtain ⟨i0, hi0, hz0, hz1, hz2⟩ := info_parts Tryz.infoInt
  have HB := hide hb
  have HP := hide hp
  obtain ⟨ao, cap, rfl, h1, h2, h3⟩ := hp
  unfold maxLen at h2
  obtain ⟨rfl, g1, g2, g3, g4⟩ := hG
  have HE := hide g4
  have HPC := hide h3
  have HCK := hide hC
  clear h3 hb g4 hC
  go_enter Tryz.func20, Tryz.ntmps20
  go_wp2_with fail
  have gW : w.grownBy ((w.alloc (Obj.cells #[.int .i64 (n : Nat), .slice ao ps.length cap] 38)).alloc (Obj.cells #[.int .i64 0, .int .i64 0] 26)) none := gr_alloc (gr_alloc (gr_refl _ _) _) _
  have GW := hide gW
  clear gW
  refine (Check_at (n : Nat) _ ps _ (HB.out.keep GW.out) (HP.out.keep GW.out)).mono ?_
  intro e w1 hE
  obtain ⟨rfl, k1⟩ := hE
  rw [HCK.out]
  have K1 := hide k1
  have b0 := k1.cell (a := ⟨w.heap.size, 0, none⟩) (v := .int .i64 (n : Nat)) (by go_simp) (by simp)
  have b1 := k1.cell (a := ⟨w.heap.size, 1, none⟩) (v := .slice ao ps.length cap) (by go_simp) (by simp)
  have hsz : w.heap.size + 1 < w1.heap.size := by have := k1.size; simp at this; omega
  have hsz0 : w.heap.size < w1.heap.size := by omega
  clear k1
  obtain ⟨Wa, hWa⟩ : ∃ W, W = (w.alloc (Obj.cells #[.int .i64 (n : Nat), .slice ao ps.length cap] 38)).alloc (Obj.cells #[.int .i64 0, .int .i64 0] 26) := ⟨_, rfl⟩
  rw [← hWa] at K1 GW
  have RES : Hid (∀ wr : World, Wa.grownBy wr none → wr.cell? ⟨w.heap.size + 1, 0, none⟩ = some (.int .i64 0) ∧ wr.cell? ⟨w.heap.size + 1, 1, none⟩ = some (.int .i64 0) ∧ (∀ i, wr.frozen? ⟨w.heap.size + 1, i, none⟩ = false) ∧ wr.cell? ⟨w.heap.size, 0, none⟩ = some (.int .i64 (n : Nat)) ∧ wr.cell? ⟨w.heap.size, 1, none⟩ = some (.slice ao ps.length cap)) := by
    intro wr hg
    rw [hWa] at hg
    have := res_two hg
    refine ⟨by simpa using this.1, by simpa using this.2.1, by simpa using this.2.2, hg.cell (by go_simp) (by simp), hg.cell (by go_simp) (by simp)⟩
  have hWs : Wa.heap.size = w.heap.size + 2 := by rw [hWa]; simp
  have HWS := hide hWs
  clear hWa hWs
  go_wp2_with fail
  refine (apart_at n _ g2).mono ?_
  rintro e w2 ⟨rfl, a1, a2⟩
  have A1 := hide a1
  have A2 := hide (gr_none (gr_alloc K1.out _) a2)
  have hgs : Wa.heap.size ≤ (w1.alloc (Obj.cells #[Value.int IntKind.i64 0, Value.int IntKind.i64 0] 26)).heap.size := (gr_alloc K1.out _).size
  generalize (w1.alloc (Obj.cells #[Value.int IntKind.i64 0, Value.int IntKind.i64 0] 26)).heap.size = g at *
  have hgb : g < w2.heap.size := a1.lt
  obtain ⟨_, _, _, n0, n1⟩ := RES.out w2 A2.out
  clear a1 a2 b0 b1
  go_wp2
  obtain ⟨base, hbase⟩ : ∃ b, b = w2.heap.size := ⟨_, rfl⟩
  rw [← hbase] at hgb
  have HBASE := hide hbase
  clear hbase
  have hpl : (prs ps).length = ps.length := by simp [prs]
  have HPL := hide hpl
  clear hpl
  go_loopw [5, 21] (fun ov v wr => Hid (TreeR Wa g base n (prs ps) ov v wr)) (fun _ v _ => ps.length - (intOf v).toNat)
  case atStart => exact ⟨0, by omega, rfl, A1.out, ownG_nil, A2.out, by rw [HBASE.out]; exact Nat.le_refl _⟩
  case round =>
    obtain ⟨i, hi, rfl, l1, l2, l3, l4⟩ := hrel.out
    rw [HPL.out] at hi
    obtain ⟨oo, oc, ev⟩ := l2.shape
    subst ev
    have L1 := hide l1
    have L2 := hide l2
    have L3 := hide l3
    have htl := treeUpto_len (prs ps) i
    obtain ⟨r0, r1, rf, _, _⟩ := RES.out wr l3
    have rf0 := rf 0
    have rf1 := rf 1
    clear l1 l2 l3 hrel rf n0 n1 A1
    by_cases hlt : i < ps.length
    · obtain ⟨b, off, rfl, hb, c0, c1, c2, c3, c4, c5, c6⟩ := HPC.out i hlt
      have hgg := gr_none GW.out L3.out
      obtain ⟨ea, eb, e1, e2, e3, e4⟩ := HE.out i hlt
      have q0 := hgg.cell c0 (by simp)
      have q1 := hgg.cell c1 (by simp)
      have q2 := hgg.cell c2 (by simp)
      have q3 := hgg.cell c3 (by simp)
      have q4 := hgg.cell c4 (by simp)
      have q5 := hgg.cell c5 (by simp)
      have hpt := prs_get (ps := ps) hlt
      rw [e1, e2, Int.toNat_natCast, Int.toNat_natCast] at hpt
      rw [e1] at q1
      rw [e2] at q2
      have HPT := hide hpt
      have la := L1.out.cell ea (by rw [labs_length]; exact e3)
      have lb := L1.out.cell eb (by rw [labs_length]; exact e4)
      rw [labs_get] at la lb
      have hgw := L1.out.lt
      generalize ps[i].kind = z0 at q0
      generalize ps[i].c = z3 at q3
      generalize ps[i].d = z4 at q4
      generalize ps[i].v = z5 at q5
      clear c0 c1 c2 c3 c4 c5 c6 hgg e1 e2 hpt HPC
      by_cases heq : labF (sel (prs ps) (treeUpto (prs ps) i)) ea = labF (sel (prs ps) (treeUpto (prs ps) i)) eb
      · have HEQ := hide heq
        rw [heq] at la
        generalize labF (sel (prs ps) (treeUpto (prs ps) i)) eb = x at la lb
        clear heq
        go_wp2
        go_quiet (fail)
        go_wp2
        go_roundw
        case rel =>
          have et : treeUpto (prs ps) (i + 1) = treeUpto (prs ps) i := by
            show (if _ then _ else _) = _
            rw [HPT.out, if_pos HEQ.out]
          refine ⟨i + 1, by rw [HPL.out]; omega, by go_num, ?_, ?_, gr_drewN (gr_alloc L3.out _) _, by simp; omega⟩
          · rw [et]; exact L1.out.keep0 (gr_drewN (gr_alloc (gr_refl _ _) _) _)
          · rw [et]; exact L2.out.keep0 (gr_drewN (gr_alloc (gr_refl _ _) _) _)
        case measure => simp [intOf]; omega
      · have HEQ := hide heq
        have hne : (((labF (sel (prs ps) (treeUpto (prs ps) i)) ea : Nat) : Int) != ((labF (sel (prs ps) (treeUpto (prs ps) i)) eb : Nat) : Int)) = true := by
          rw [bne_iff_ne]; omega
        generalize labF (sel (prs ps) (treeUpto (prs ps) i)) ea = x at la hne
        generalize labF (sel (prs ps) (treeUpto (prs ps) i)) eb = y at lb hne
        clear heq
        go_wp2
        go_quiet (fail)
        go_wp2_with fail
        refine (join_lab g n n (sel (prs ps) (treeUpto (prs ps) i)) ea eb _ g2 e3 e4 (L1.out.keep0 (gr_drewN (gr_alloc (gr_refl _ _) _) _)) (by omega) (by unfold maxLen; omega)).mono ?_
        rintro e w3 ⟨rfl, j1, j2⟩
        have et : treeUpto (prs ps) (i + 1) = treeUpto (prs ps) i ++ [i] := by
          show (if _ then _ else _) = _
          rw [HPT.out, if_neg HEQ.out]
        have ET := hide et
        have J1 : Hid (IArr w3 g (labs n (labF (sel (prs ps) (treeUpto (prs ps) (i + 1)))))) := by
          rw [et]
          have : sel (prs ps) (treeUpto (prs ps) i ++ [i]) = sel (prs ps) (treeUpto (prs ps) i) ++ [(ea, eb)] := by
            simp only [sel, List.map_append, List.map_cons, List.map_nil]
            rw [HPT.out]
          rw [this]
          exact j1
        have J2 := hide (gr_in (gr_drewN (gr_alloc L3.out _) _) j2 hgs)
        have J3 := hide ((L2.out.keep0 (gr_drewN (gr_alloc (gr_refl _ _) _) _)).keepB j2 hgb)
        have hb3 : base ≤ w3.heap.size := by
          have := j2.size
          simp at this
          omega
        have hbig : (treeUpto (prs ps) i).length ≤ 16 := by omega
        clear j1 j2 et la lb L1 L2 htl
        go_wp2_with (at_builtin; refine wpList_append_g (fun x : Nat => iv x) 3 (iv 0) 8 _ rfl _ _ 42 rfl base Tryz.underlying42 Tryz.infoInt rfl _ (treeUpto (prs ps) i) rfl (J3.out.keep0 (gr_alloc (gr_refl _ _) _)) w3.heap.size i rfl (by go_simp) rfl (by omega) (by omega) (by simp; omega) ?_)
        intro ao' cap' w4 o1 o2
        have O1 := hide o1
        have O2 := hide o2
        clear o1 o2
        go_wp2
        go_roundw
        case rel =>
          have hown : Hid (∀ k, (Value.slice oo (treeUpto (prs ps) i).length oc).ownBlock = some k → base ≤ k) := fun k hk => (J3.out.fresh k hk).1
          have hgr2 : w3.grownBy w4 (Value.slice oo (treeUpto (prs ps) i).length oc).ownBlock := gr_trans (r1 := none) (gr_alloc (gr_refl _ _) _) O2.out (fun _ _ e => by cases e) (fun _ _ e => e)
          have hWb : Wa.heap.size ≤ base := by omega
          refine ⟨i + 1, by rw [HPL.out]; omega, by go_num, ?_, ?_, ?_, ?_⟩
          · refine J1.out.keep hgr2 ?_
            intro e
            have := hown.out g e.symm
            omega
          · rw [ET.out]
            exact O1.out
          · exact gr_trans J2.out hgr2 (fun _ _ e => e) (fun b hb e => by have := hown.out b e.symm; omega)
          · exact Nat.le_trans hb3 hgr2.size
        case measure => simp [intOf]; omega
    · have hie : i = (prs ps).length := by rw [HPL.out]; omega
      have HIE := hide hie
      clear hie HPC
      go_wp2
      refine bodyPost_ret (v := .tuple #[.slice oo (treeUpto (prs ps) i).length oc, .agg #[.int .i64 0, .int .i64 0]]) (by simp [results, Tryz.results20, go_sem, r0, r1]) rfl ?_
      have hrow := L2.out
      have hne : ∀ x y, wr.grownBy ((wr.setCell ⟨w.heap.size + 1, 0, none⟩ x).setCell ⟨w.heap.size + 1, 1, none⟩ y) (some (w.heap.size + 1)) := fun x y => gr_row (gr_row (gr_refl _ _) _ 0 _ rfl) _ 1 _ rfl
      refine ⟨_, rfl, ?_, gr_set (gr_set (gr_none GW.out L3.out) _ _ (by simp)) _ _ (by simp)⟩
      have h5 := (hrow.keepB (hne (.int .i64 0) (.int .i64 0)) (by have := HWS.out; omega)).row
      unfold treeOf
      rw [← HIE.out]
      exact h5
end Go.Proofs.YtfhamfgcjdhmdaaGreatDoor

namespace Go.Proofs.YtfhamfgcjdhmdaaGreatDoor
open Go.RowKit
set_option linter.unusedVariables false

abbrev nv (x : Nat) : Value := iv (x : Int)

/-- Of nodes: 1 or 0. -/
def sideL (n : Nat) (E : List Pr) (a : Nat) : List Int := (List.range n).map (side E a)

theorem sideL_length (n : Nat) (E : List Pr) (a : Nat) : (sideL n E a).length = n := by simp [sideL]
theorem sideL_get (n : Nat) (E : List Pr) (a i : Nat) (h : i < (sideL n E a).length) : (sideL n E a)[i] = side E a i := by simp [sideL]

/-- The tree without one. -/
def without (E : List Pr) (T : List Nat) (t : Nat) : List Pr := sel E (T.filter (fun x => x != t))

def Sd1R (W : World) (g n : Nat) (E : List Pr) (T : List Nat) (t : Nat) (v : Value) (wr : World) : Prop := ∃ i : Nat, i ≤ T.length ∧ v = .int .i64 i ∧ IArr wr g (labs n (labF (without E (T.take i) t))) ∧ W.grownBy wr none

def Sd2R (W : World) (g g2 n : Nat) (E : List Pr) (a : Nat) (v : Value) (wr : World) : Prop := ∃ i : Nat, i ≤ n ∧ v = .int .i64 i ∧ IArr wr g (labs n (labF E)) ∧ IArr wr g2 ((List.range n).map (fun x => if x < i then side E a x else 0)) ∧ W.grownBy wr none

theorem without_snoc {E : List Pr} {T : List Nat} {t i : Nat} (h : i < T.length) : without E (T.take (i + 1)) t = if T[i] = t then without E (T.take i) t else without E (T.take i) t ++ [E.getD T[i] (0, 0)] := by
  unfold without
  rw [List.take_succ_eq_append_getElem h, List.filter_append]
  by_cases e : T[i] = t
  · rw [if_pos e]; simp [e]
  · rw [if_neg e]
    simp [sel, e]

/-- What sideOf answers. -/
def SideE (w : World) (n : Nat) (E : List Pr) (T : List Nat) (t : Nat) (e : Ending) (w' : World) : Prop := ∃ g, e = .returned (.slice (some ⟨g, 0, none⟩) n n) ∧ IArr w' g (sideL n (without E T t) (E.getD t (0, 0)).1) ∧ w.grownBy w' none

set_option maxHeartbeats 4000000 in
set_option maxRecDepth 10000 in
theorem sideOf_at (n : Nat) (pv tv : Value) (ps : List Prt) (T : List Nat) (t : Nat) (w : World) (hp : PartsAt w pv ps) (hG : Good (n : Int) ps n) (hT : RowG nv w tv T) (hTl : ∀ x ∈ T, x < ps.length) (hT16 : T.length ≤ 16) (ht : t < ps.length) :
    Calls Tryz.prog 157 #[.agg #[.int .i64 (n : Nat), pv], tv, .int .i64 (t : Nat)] w fun e w' => SideE w n (prs ps) T t e w' := by
  obtain ⟨ao, cap, rfl, h1, h2, h3⟩ := hp
  obtain ⟨to_, tc, rfl, t1, t2, t3⟩ := hT
  unfold maxLen at h2 t2
  obtain ⟨g0, g1, g2, g3, g4⟩ := hG
  have HE := hide g4
  have HPC := hide h3
  have HTC := hide t3
  have HTL := hide hTl
  clear h3 g4 g0 t3 hTl
  go_enter Tryz.func157, Tryz.ntmps157
  go_wp2_with fail
  obtain ⟨Wa, hWa⟩ : ∃ W, W = w.alloc (Obj.cells #[.int .i64 (n : Nat), .slice ao ps.length cap] 38) := ⟨_, rfl⟩
  have GW : Hid (w.grownBy Wa none) := by rw [hWa]; exact gr_alloc (gr_refl _ _) _
  have RES : Hid (∀ wr : World, Wa.grownBy wr none → wr.cell? ⟨w.heap.size, 0, none⟩ = some (.int .i64 (n : Nat)) ∧ wr.cell? ⟨w.heap.size, 1, none⟩ = some (.slice ao ps.length cap)) := by
    intro wr hg
    rw [hWa] at hg
    exact ⟨hg.cell (by go_simp) (by simp), hg.cell (by go_simp) (by simp)⟩
  have hws : w.heap.size < Wa.heap.size := by rw [hWa]; simp
  rw [← hWa]
  clear hWa
  refine (apart_at n _ g2).mono ?_
  rintro e w2 ⟨rfl, a1, a2⟩
  have A1 := hide a1
  have A2 := hide a2
  have hgs : Wa.heap.size ≤ Wa.heap.size := Nat.le_refl _
  generalize hgg0 : Wa.heap.size = g at a1 a2 A1 hgs hws
  rw [← hgg0] at hgs
  have HG0 := hide hgg0
  obtain ⟨n0, n1⟩ := RES.out w2 a2
  clear a1 a2 hgg0
  go_wp2
  go_loopw [18] (fun v wr => Hid (Sd1R Wa g n (prs ps) T t v wr)) (fun v _ => T.length - (intOf v).toNat)
  case atStart => exact ⟨0, by omega, rfl, A1.out, A2.out⟩
  case round =>
    obtain ⟨i, hi, rfl, l1, l2⟩ := hrel.out
    have L1 := hide l1
    have L2 := hide l2
    obtain ⟨m0, m1⟩ := RES.out wr l2
    clear l1 l2 hrel n0 n1 A1 A2
    by_cases hlt : i < T.length
    · obtain ⟨tb, toff, rfl, htb, htc⟩ := HTC.out i hlt
      have htl := HTL.out T[i] (List.getElem_mem hlt)
      have hws2 := without_snoc (E := prs ps) (t := t) hlt
      have qt := (gr_none GW.out L2.out).cell htc (by simp)
      obtain ⟨x, hx⟩ : ∃ x, x = T[i] := ⟨_, rfl⟩
      rw [← hx] at qt htl hws2
      have HWS2 := hide hws2
      clear htc hws2 hx HTC
      by_cases hxt : x = t
      · have hxt' : ((x : Int) != (t : Int)) = false := by simp [hxt]
        have HXT := hide hxt
        clear hxt
        go_wp2
        go_roundw
        case rel => exact ⟨i + 1, by omega, by go_num, by rw [HWS2.out, if_pos HXT.out]; exact L1.out, L2.out⟩
        case measure => simp [intOf]; omega
      · have hxt' : ((x : Int) != (t : Int)) = true := by rw [bne_iff_ne]; omega
        have HXT := hide hxt
        obtain ⟨b, off, rfl, hb, c0, c1, c2, c3, c4, c5, c6⟩ := HPC.out x htl
        obtain ⟨ea, eb, e1, e2, e3, e4⟩ := HE.out x htl
        have hgg := gr_none GW.out L2.out
        have q1 := hgg.cell c1 (by simp)
        have q2 := hgg.cell c2 (by simp)
        have hpt := prs_get (ps := ps) htl
        rw [e1, e2, Int.toNat_natCast, Int.toNat_natCast] at hpt
        rw [e1] at q1
        rw [e2] at q2
        have HPT := hide hpt
        have hbg : some b ≠ some g := by
          intro e
          have := Option.some.inj e
          have := HG0.out
          omega
        have hwg : some w.heap.size ≠ some g := by
          intro e
          have := Option.some.inj e
          omega
        clear c0 c1 c2 c3 c4 c5 c6 hgg e1 e2 hpt hxt
        go_wp2_with fail
        go_region_held3 (fun w' => w'.cell? ⟨w.heap.size, 1, none⟩ = some (.slice (some ⟨b, off, none⟩) ps.length cap) ∧ w'.cell? ⟨b, off + x * 6 + 1, none⟩ = some (.int .i64 (ea : Nat)) ∧ w'.cell? ⟨b, off + x * 6 + 2, none⟩ = some (.int .i64 (eb : Nat))) (go_keep)
          (first | (go_at_call 85; refine (join_lab g n n (without (prs ps) (T.take i) t) ea eb _ g2 e3 e4 (L1.out.keep0 (gr_d _)) (by omega) (by unfold maxLen; omega)).mono ?_; rintro e w3 ⟨rfl, j1, j2⟩; have s1 := (gr_trans (r1 := none) (r2 := some g) (gr_d _) j2 (fun _ _ e => by cases e) (fun _ _ e => e)).cell m1 hwg; have s2 := (gr_trans (r1 := none) (r2 := some g) (gr_d _) j2 (fun _ _ e => by cases e) (fun _ _ e => e)).cell q1 hbg; have s3 := (gr_trans (r1 := none) (r2 := some g) (gr_d _) j2 (fun _ _ e => by cases e) (fun _ _ e => e)).cell q2 hbg))
        have J1 : Hid (IArr w3 g (labs n (labF (without (prs ps) (T.take (i + 1)) t)))) := by
          rw [HWS2.out, if_neg HXT.out, HPT.out]
          exact j1
        have J2 := hide (gr_in (gr_drewN L2.out _) j2 (by have := HG0.out; omega))
        clear j1 j2 s1 s2 s3 HPC HTL
        go_wp2
        go_roundw
        case rel => exact ⟨i + 1, by omega, by go_num, J1.out, J2.out⟩
        case measure => simp [intOf]; omega
    · have htk : T.take i = T := List.take_of_length_le (by omega)
      rw [htk] at L1
      clear htk HTC HTL
      obtain ⟨b, off, rfl, hb, c0, c1, c2, c3, c4, c5, c6⟩ := HPC.out t ht
      obtain ⟨ea, eb, e1, e2, e3, e4⟩ := HE.out t ht
      rw [e1] at c1
      have hpt := prs_get (ps := ps) ht
      rw [e1, e2, Int.toNat_natCast, Int.toNat_natCast] at hpt
      have HPT := hide hpt
      have C1 := hide c1
      clear c0 c1 c2 c3 c4 c5 c6 e1 e2 hpt HPC HE
      go_wp2_with (at_make; refine wpList_make_g iv 3 0 8 _ rfl _ _ 42 rfl Tryz.underlying42 Tryz.infoInt rfl _ _ _ _ n rfl rfl (by omega) (by omega) (by omega) (by omega) ?_)
      intro w5 harr hgr
      have HR := hide harr
      have L5 := hide (L1.out.keep0 hgr)
      have G5 := hide (gr_none L2.out hgr)
      have hg2 : g < wr.heap.size := L1.out.lt
      have hgW : Wa.heap.size ≤ wr.heap.size := L2.out.size
      generalize wr.heap.size = gs at *
      clear harr hgr L1 L2 m0 m1
      go_wp2
      go_loopw [45] (fun v wr => Hid (Sd2R Wa g gs n (without (prs ps) T t) ea v wr)) (fun v _ => n - (intOf v).toNat)
      case atStart =>
        refine ⟨0, by omega, rfl, L5.out, ?_, G5.out⟩
        have e : (List.range n).map (fun x => if x < 0 then side (without (prs ps) T t) ea x else 0) = List.replicate n 0 := by
          apply List.ext_getElem
          · simp
          · intro i h1 h2; simp
        rw [e]
        exact HR.out
      case round =>
        obtain ⟨j, hj, rfl, k1, k2, k3⟩ := hrel.out
        obtain ⟨m0, m1⟩ := RES.out wr k3
        by_cases hlt2 : j < n
        · have ca := k1.cell ea (by rw [labs_length]; exact e3)
          have cj := k1.cell j (by rw [labs_length]; exact hlt2)
          rw [labs_get] at ca cj
          have qa := (gr_none GW.out k3).cell C1.out (by simp)
          have hfr := k2.free j
          obtain ⟨v0, hco⟩ : ∃ v, wr.cell? ⟨gs, j, none⟩ = some v := ⟨_, k2.cell j (by simp; exact hlt2)⟩
          have K1 := hide k1
          have K2 := hide k2
          have K3 := hide k3
          by_cases hes : labF (without (prs ps) T t) j = labF (without (prs ps) T t) ea
          · have HES := hide hes
            rw [hes] at cj
            generalize labF (without (prs ps) T t) ea = x at ca cj
            clear hes k1 k2 k3 hrel
            go_wp2
            go_roundw
            case rel =>
              refine ⟨j + 1, by omega, by go_num, ?_, ?_, gr_set K3.out _ _ hgW⟩
              · exact K1.out.keep (gr_row (gr_refl wr _) gs j (.int .i64 1) rfl) (by intro e; have := Option.some.inj e; omega)
              · have := K2.out.set j 1 (.int .i64 1) rfl
                have e : ((List.range n).map (fun x => if x < j then side (without (prs ps) T t) ea x else 0)).set j 1 = (List.range n).map (fun x => if x < j + 1 then side (without (prs ps) T t) ea x else 0) := by
                  apply List.ext_getElem
                  · simp
                  · intro q h1 h2
                    rw [List.getElem_set]
                    by_cases e : j = q
                    · subst e
                      simp [side, HES.out]
                    · by_cases e2 : q < j
                      · simp [e, e2, Nat.lt_succ_of_lt e2]
                      · have e3 : ¬ q < j + 1 := by omega
                        simp [e, e2, e3]
                rw [e] at this
                exact this
            case measure => simp [intOf]; omega
          · have HES := hide hes
            have hbe : (((labF (without (prs ps) T t) j : Nat) : Int) == ((labF (without (prs ps) T t) ea : Nat) : Int)) = false := by rw [beq_eq_false_iff_ne]; omega
            generalize labF (without (prs ps) T t) ea = x at ca hbe
            generalize labF (without (prs ps) T t) j = y at cj hbe
            clear hes k1 k2 k3 hrel
            go_wp2
            go_roundw
            case rel =>
              refine ⟨j + 1, by omega, by go_num, K1.out, ?_, K3.out⟩
              have e : (List.range n).map (fun x => if x < j then side (without (prs ps) T t) ea x else 0) = (List.range n).map (fun x => if x < j + 1 then side (without (prs ps) T t) ea x else 0) := by
                apply List.map_congr_left
                intro q _
                by_cases e : q = j
                · subst e
                  rw [if_neg (by omega), if_pos (by omega)]
                  unfold side
                  rw [if_neg HES.out]
                · by_cases e2 : q < j
                  · rw [if_pos e2, if_pos (by omega)]
                  · rw [if_neg e2, if_neg (by omega)]
              have := K2.out
              rw [e] at this
              exact this
            case measure => simp [intOf]; omega
        · obtain rfl : j = n := by omega
          have K2 := hide k2
          have K3 := hide k3
          clear k1 k2 k3 hrel
          go_wp2
          go_ret
          refine ⟨gs, rfl, ?_, gr_none GW.out K3.out⟩
          rw [HPT.out]
          have e : (List.range j).map (fun x => if x < j then side (without (prs ps) T t) ea x else 0) = sideL j (without (prs ps) T t) ea := by
            unfold sideL
            apply List.map_congr_left
            intro q hq
            rw [if_pos (List.mem_range.1 hq)]
          have := K2.out
          rw [e] at this
          exact this
end Go.Proofs.YtfhamfgcjdhmdaaGreatDoor

namespace Go.Proofs.YtfhamfgcjdhmdaaGreatDoor
open Go.RowKit
set_option linter.unusedVariables false

theorem side_bd (E : List Pr) (a x : Nat) : side E a x = 0 ∨ side E a x = 1 := by
  unfold side
  split
  · exact .inr rfl
  · exact .inl rfl

set_option maxHeartbeats 1000000 in
set_option maxRecDepth 10000 in
theorem cutTold_at (p : Prt) (n g gs ea eb a : Nat) (E : List Pr) (w : World) (hn : n ≤ 8) (h : IArr w gs (sideL n E a)) (hc : w.cell? ⟨g, 0, none⟩ = some (.slice (some ⟨gs, 0, none⟩) n n)) (hg : g < w.heap.size) (e1 : p.a = (ea : Int)) (e2 : p.b = (eb : Int)) (e3 : ea < n) (e4 : eb < n) :
    Calls Tryz.prog 159 #[p.val, .pointer (some ⟨g, 0, none⟩)] w fun e w' => e = .returned (.int .i64 (side E a ea - side E a eb)) ∧ w.grownBy w' none := by
  have hgs := h.lt
  have ca := h.cell ea (by rw [sideL_length]; exact e3)
  have cb := h.cell eb (by rw [sideL_length]; exact e4)
  rw [sideL_get] at ca cb
  have s1 := side_bd E a ea
  have s2 := side_bd E a eb
  have hx : 0 ≤ side E a ea ∧ side E a ea ≤ 1 := by omega
  have hy : 0 ≤ side E a eb ∧ side E a eb ≤ 1 := by omega
  generalize side E a ea = x at ca hx
  generalize side E a eb = y at cb hy
  obtain ⟨x1, x2⟩ := hx
  obtain ⟨y1, y2⟩ := hy
  unfold Prt.val
  rw [e1, e2]
  generalize p.kind = z0
  generalize p.c = z3
  generalize p.d = z4
  generalize p.v = z5
  clear s1 s2 h e1 e2
  go_enter Tryz.func159, Tryz.ntmps159
  go_wp2
  go_quiet (fail)
  go_wp2
  go_ret
  exact ⟨rfl, gr_drewN (gr_alloc (gr_refl _ _) _) _⟩

/-- What a cut says of each part. -/
def cutRow (E : List Pr) (ps : List Pr) (a : Nat) : List Int := ps.map fun e => side E a e.1 - side E a e.2

def TellR (W : World) (base n gs : Nat) (E : List Pr) (a : Nat) (ps : List Pr) (ov v : Value) (wr : World) : Prop := ∃ i : Nat, i ≤ ps.length ∧ v = .int .i64 i ∧ OwnG iv 3 wr base ov (cutRow E (ps.take i) a) ∧ IArr wr gs (sideL n E a) ∧ W.grownBy wr none

/-- What tellEach answers. -/
def TellE (w : World) (E : List Pr) (a : Nat) (ps : List Pr) (e : Ending) (w' : World) : Prop := ∃ v, e = .returned v ∧ RowG iv w' v (cutRow E ps a) ∧ w.grownBy w' none ∧ (∀ k, v.ownBlock = some k → w.heap.size ≤ k ∧ k < w'.heap.size)

set_option maxHeartbeats 4000000 in
set_option maxRecDepth 10000 in
theorem tellEach_at (n g gs a : Nat) (pv : Value) (ps : List Prt) (E : List Pr) (w : World) (hp : PartsAt w pv ps) (hG : Good (n : Int) ps n) (h : IArr w gs (sideL n E a)) (hc : w.cell? ⟨g, 0, none⟩ = some (.slice (some ⟨gs, 0, none⟩) n n)) (hg : g < w.heap.size) :
    Calls Tryz.prog 158 #[.agg #[.int .i64 (n : Nat), pv], .func (.func 159) #[] #[.pointer (some ⟨g, 0, none⟩)]] w fun e w' => TellE w E a (prs ps) e w' := by
  obtain ⟨ao, cap, rfl, h1, h2, h3⟩ := hp
  unfold maxLen at h2
  obtain ⟨g0, g1, g2, g3, g4⟩ := hG
  have HE := hide g4
  have HPC := hide h3
  have HS := hide h
  have HC := hide hc
  have hpl : (prs ps).length = ps.length := by simp [prs]
  have HPL := hide hpl
  have hgs := h.lt
  clear h3 g4 g0 h hc hpl
  go_enter Tryz.func158, Tryz.ntmps158
  go_wp2
  obtain ⟨Wa, hWa⟩ : ∃ W, W = w.alloc (Obj.cells #[.int .i64 (n : Nat), .slice ao ps.length cap] 38) := ⟨_, rfl⟩
  have GW : Hid (w.grownBy Wa none) := by rw [hWa]; exact gr_alloc (gr_refl _ _) _
  have hws : w.heap.size < Wa.heap.size := by rw [hWa]; simp
  simp only [← hWa]
  clear hWa
  go_loopw [5, 11] (fun ov v wr => Hid (TellR Wa Wa.heap.size n gs E a (prs ps) ov v wr)) (fun _ v _ => ps.length - (intOf v).toNat)
  case atStart => exact ⟨0, by omega, rfl, ownG_nil, HS.out.keep0 GW.out, gr_refl _ _⟩
  case round =>
    obtain ⟨i, hi, rfl, l1, l2, l3⟩ := hrel.out
    rw [HPL.out] at hi
    obtain ⟨oo, oc, ev⟩ := l1.shape
    have hll : (cutRow E ((prs ps).take i) a).length = i := by simp [cutRow, HPL.out]; omega
    subst ev
    have L1 := hide l1
    have L2 := hide l2
    have L3 := hide l3
    have HLL := hide hll
    clear l1 l2 l3 hrel hll
    by_cases hlt : i < ps.length
    · obtain ⟨b, off, rfl, hb, c0, c1, c2, c3, c4, c5, c6⟩ := HPC.out i hlt
      have hgg := gr_none GW.out L3.out
      obtain ⟨ea, eb, e1, e2, e3, e4⟩ := HE.out i hlt
      have q0 := hgg.cell c0 (by simp)
      have q1 := hgg.cell c1 (by simp)
      have q2 := hgg.cell c2 (by simp)
      have q3 := hgg.cell c3 (by simp)
      have q4 := hgg.cell c4 (by simp)
      have q5 := hgg.cell c5 (by simp)
      have qc := hgg.cell HC.out (by simp)
      have hgz : g < wr.heap.size := Nat.lt_of_lt_of_le hg hgg.size
      have hpt := prs_take (ps := ps) hlt
      rw [e1, e2, Int.toNat_natCast, Int.toNat_natCast] at hpt
      have HPT := hide hpt
      have ET := hide (And.intro e1 e2)
      generalize ps[i] = p at q0 q1 q2 q3 q4 q5 ET
      clear c0 c1 c2 c3 c4 c5 c6 hgg e1 e2 hpt HPC
      go_wp2_with fail
      refine (cutTold_at p n g gs ea eb a E _ g2 (L2.out.keep0 (gr_alloc (gr_refl _ _) _)) ((gr_alloc (gr_refl wr none) _).cell qc (by simp)) (by simp; omega) ET.out.1 ET.out.2 e3 e4).mono ?_
      rintro e w3 ⟨rfl, j2⟩
      have J2 := hide (gr_none (gr_alloc (gr_refl _ _) _) j2)
      have hj2 := J2.out.size
      obtain ⟨z, hz⟩ : ∃ z, z = side E a ea - side E a eb := ⟨_, rfl⟩
      rw [← hz]
      have HZ := hide hz
      have hl3 := L3.out.size
      clear j2 hz
      go_wp2_with (at_builtin; refine wpList_append_g iv 3 (iv 0) 8 _ rfl _ _ 42 rfl Wa.heap.size Tryz.underlying42 Tryz.infoInt rfl _ (cutRow E ((prs ps).take i) a) rfl (L1.out.keep0 (gr_alloc J2.out _)) w3.heap.size z rfl (by go_simp) rfl (by rw [HLL.out]; omega) (by omega) (by simp; omega) ?_)
      intro ao' cap' w4 o1 o2
      have O1 := hide o1
      have O2 := hide o2
      clear o1 o2
      go_wp2
      go_roundw
      case rel =>
        have hown : ∀ k, (Value.slice oo (cutRow E ((prs ps).take i) a).length oc).ownBlock = some k → Wa.heap.size ≤ k := fun k hk => (L1.out.fresh k hk).1
        have hgr2 := gr_trans (r := (Value.slice oo (cutRow E ((prs ps).take i) a).length oc).ownBlock) (r1 := none) (gr_alloc J2.out _) O2.out (fun _ _ e => by cases e) (fun _ _ e => e)
        refine ⟨i + 1, by rw [HPL.out]; omega, by go_num, ?_, ?_, ?_⟩
        · rw [HPT.out]
          have e : cutRow E ((prs ps).take i ++ [(ea, eb)]) a = cutRow E ((prs ps).take i) a ++ [z] := by
            rw [HZ.out]
            simp [cutRow]
          rw [e]
          exact O1.out
        · refine L2.out.keep hgr2 ?_
          intro e
          have := hown gs e.symm
          omega
        · exact gr_trans L3.out hgr2 (fun _ _ e => e) (fun b hb e => by have := hown b e.symm; omega)
      case measure => simp [intOf]; omega
    · have htk : (prs ps).take i = prs ps := List.take_of_length_le (by rw [HPL.out]; omega)
      have HTK := hide htk
      clear htk HPC
      go_wp2
      go_ret
      refine ⟨_, rfl, ?_, gr_none GW.out L3.out, ?_⟩
      rotate_left
      · intro k hk
        have := L1.out.fresh k hk
        omega
      have h5 := L1.out.row
      show RowG iv wr (.slice oo (cutRow E ((prs ps).take i) a).length oc) _
      rw [HTK.out] at h5 ⊢
      exact h5
end Go.Proofs.YtfhamfgcjdhmdaaGreatDoor

namespace Go.Proofs.YtfhamfgcjdhmdaaGreatDoor
open Go.RowKit
set_option linter.unusedVariables false

theorem Tryz.infoInts : (Tryz.prog.info? 42).map (fun i => (i.zero, i.size, i.bytes)) = some (some (.slice none 0 0), 1, 24) := by kernel_rfl

/-- 'out = append(out, y)', y of one cell, and where the new slice lies. -/
theorem wpList_append_gl {P : Program} {α : Type} (f : α → Value) (e : TypeId) (z0 : Value) (by_ : Nat) (W : World) {ops : Array Oper} {rest : List Oper} {o : Oper} {a : Act} {Q : Exit → Act → World → Prop}
    (hg : o.guard = none) (s x : Operand) (t : TypeId) (ho : o.op = .call { callee := .builtin .append, args := #[s, x], argTypes := #[t, t] }) (base : Nat)
    (h1 : P.underlying t = some (.slice e)) (hinfo : (P.info? e).map (fun i => (i.zero, i.size, i.bytes)) = some (some z0, 1, by_)) (hcz : z0.cells.size = 1)
    (v : Value) (xs : List α) (hs : a.eval s = v) (hown : OwnG f e W base v xs) (b : Nat) (y : α) (hx : a.eval x = .slice (some ⟨b, 0, none⟩) 1 1) (hc : W.cell? ⟨b, 0, none⟩ = some (f y)) (h1c : (f y).oneCell' = true)
    (hlen : xs.length ≤ 1000000) (hby : by_ ≤ 24) (hbase : base ≤ W.heap.size)
    (hK : ∀ g cap w', OwnG f e w' base (.slice (some ⟨g, 0, none⟩) (xs.length + 1) cap) (xs ++ [y]) → W.grownBy w' v.ownBlock → (v.ownBlock = some g ∨ g = W.heap.size) → wpList P ops Q rest (a.put o.dst (.slice (some ⟨g, 0, none⟩) (xs.length + 1) cap)) w') : wpList P ops Q (o :: rest) a W := by
  obtain ⟨i, hi, hz0, hz1, hz2⟩ := info_parts hinfo
  refine wpList_append_lies W hg s x t ho base e i z0 1 by_ h1 hi hz0 hz1 hz2 hcz (by decide) v xs.length (xs.map f) hs hown ⟨b, 0, none⟩ 1 1 [f y] hx rfl ?_ ?_ (by decide) (by unfold maxLen; omega) ?_ hbase _ rfl ?_
  · intro j u hj
    match j with
    | 0 =>
      simp only [List.getElem?_cons_zero, Option.some.injEq] at hj
      subst hj
      simpa [Addr.add] using hc
    | j + 1 => simp at hj
  · intro u hu
    simp only [List.mem_singleton] at hu
    subst hu
    exact h1c
  · have : (xs.length + 1) * by_ ≤ (1000000 + 1) * 24 := Nat.mul_le_mul (by omega) hby
    omega
  · intro g cap w' hown' hgr hat _
    refine hK g cap w' ?_ hgr hat
    unfold OwnG
    rw [List.length_append, List.map_append]
    exact hown'

theorem RowG.keepB {α : Type} {f : α → Value} {w w' : World} {v : Value} {xs : List α} {row : Option Nat} (h : RowG f w v xs) (hg : w.grownBy w' row) (hr : ∀ k, v.ownBlock = some k → some k ≠ row) : RowG f w' v xs := by
  obtain ⟨ao, cap, rfl, h1, h2, h3⟩ := h
  refine ⟨ao, cap, rfl, h1, h2, fun i hi => ?_⟩
  obtain ⟨b, off, rfl, hb, c⟩ := h3 i hi
  exact ⟨b, off, rfl, Nat.lt_of_lt_of_le hb hg.size, hg.cell c (hr b rfl)⟩

/-- Slices of slices: the outer one is the call's own, the inner ones lie elsewhere. -/
def Own2 (w : World) (base : Nat) (ov : Value) (css : List (List Int)) : Prop :=
  ∃ vals : List Value, OwnG id 42 w base ov vals ∧ vals.length = css.length ∧ ∀ i (h : i < vals.length) (h' : i < css.length), RowG iv w vals[i] css[i] ∧ (∃ o l c, vals[i] = .slice o l c) ∧ ∀ k, vals[i].ownBlock = some k → base ≤ k ∧ k < w.heap.size ∧ some k ≠ ov.ownBlock

theorem own2_nil {w : World} {base : Nat} : Own2 w base (.slice none 0 0) [] := ⟨[], ownG_nil, rfl, fun i h => by simp at h⟩

theorem Own2.keep0 {w w' : World} {base : Nat} {ov : Value} {css : List (List Int)} (h : Own2 w base ov css) (hg : w.grownBy w' none) : Own2 w' base ov css := by
  obtain ⟨vals, h1, h2, h3⟩ := h
  refine ⟨vals, h1.keep0 hg, h2, fun i hi hi' => ?_⟩
  obtain ⟨k1, k2, k3⟩ := h3 i hi hi'
  exact ⟨k1.keep hg, k2, fun k hk => ⟨(k3 k hk).1, Nat.lt_of_lt_of_le (k3 k hk).2.1 hg.size, (k3 k hk).2.2⟩⟩

theorem Own2.keepB {w w' : World} {base g : Nat} {ov : Value} {css : List (List Int)} (h : Own2 w base ov css) (hg : w.grownBy w' (some g)) (hb : g < base) : Own2 w' base ov css := by
  obtain ⟨vals, h1, h2, h3⟩ := h
  refine ⟨vals, h1.keepB hg hb, h2, fun i hi hi' => ?_⟩
  obtain ⟨k1, k2, k3⟩ := h3 i hi hi'
  exact ⟨k1.keepB hg (fun k hk e => by have := (k3 k hk).1; cases e; omega), k2, fun k hk => ⟨(k3 k hk).1, Nat.lt_of_lt_of_le (k3 k hk).2.1 hg.size, (k3 k hk).2.2⟩⟩

/-- One more. -/
theorem Own2.snoc {w w1 w' : World} {base : Nat} {ov nw : Value} {css : List (List Int)} {vals : List Value} {row : List Int} {g cap : Nat} (h2 : vals.length = css.length)
    (h3 : ∀ i (h : i < vals.length) (h' : i < css.length), RowG iv w1 vals[i] css[i] ∧ (∃ o l c, vals[i] = .slice o l c) ∧ ∀ k, vals[i].ownBlock = some k → base ≤ k ∧ k < w1.heap.size ∧ some k ≠ ov.ownBlock)
    (hn : RowG iv w1 nw row) (hns : ∃ o l c, nw = .slice o l c) (hnk : ∀ k, nw.ownBlock = some k → base ≤ k ∧ k < w1.heap.size ∧ some k ≠ ov.ownBlock)
    (ho : OwnG id 42 w' base (.slice (some ⟨g, 0, none⟩) (vals.length + 1) cap) (vals ++ [nw])) (hgr : w1.grownBy w' ov.ownBlock) (hat : ov.ownBlock = some g ∨ w1.heap.size ≤ g) :
    Own2 w' base (.slice (some ⟨g, 0, none⟩) (vals.length + 1) cap) (css ++ [row]) := by
  have key : ∀ v xs, RowG iv w1 v xs → (∀ k, v.ownBlock = some k → base ≤ k ∧ k < w1.heap.size ∧ some k ≠ ov.ownBlock) → RowG iv w' v xs ∧ ∀ k, v.ownBlock = some k → base ≤ k ∧ k < w'.heap.size ∧ some k ≠ (Value.slice (some ⟨g, 0, none⟩) (vals.length + 1) cap).ownBlock := by
    intro v xs hv hk
    refine ⟨hv.keepB hgr (fun k e => (hk k e).2.2), fun k e => ⟨(hk k e).1, Nat.lt_of_lt_of_le (hk k e).2.1 hgr.size, ?_⟩⟩
    show some k ≠ some g
    intro e2
    have e3 := Option.some.inj e2
    subst e3
    rcases hat with h | h
    · exact (hk k e).2.2 h.symm
    · have := (hk k e).2.1
      omega
  refine ⟨vals ++ [nw], ho, by simp [h2], fun i hi hi' => ?_⟩
  by_cases hlt : i < vals.length
  · obtain ⟨k1, k2, k3⟩ := h3 i hlt (by omega)
    obtain ⟨m1, m2⟩ := key _ _ k1 k3
    simp only [List.getElem_append_left hlt, List.getElem_append_left (show i < css.length by omega)]
    exact ⟨m1, k2, m2⟩
  · have hi2 : i = vals.length := by simp at hi; omega
    subst hi2
    obtain ⟨m1, m2⟩ := key _ _ hn hnk
    have e1 : (vals ++ [nw])[vals.length] = nw := by simp
    have e2 : (css ++ [row])[vals.length]'hi' = row := by simp [h2]
    rw [e1, e2]
    exact ⟨m1, hns, m2⟩

/-- All cuts. -/
def cutsL (E : List Pr) (T : List Nat) : List (List Int) := T.map fun t => cutRow (without E T t) E (E.getD t (0, 0)).1

def CutsR (W : World) (base : Nat) (E : List Pr) (T : List Nat) (ov v : Value) (wr : World) : Prop := ∃ i : Nat, i ≤ T.length ∧ v = .int .i64 i ∧ Own2 wr base ov ((cutsL E T).take i) ∧ W.grownBy wr none

/-- What cutsOf answers. -/
def CutsE (w : World) (E : List Pr) (T : List Nat) (e : Ending) (w' : World) : Prop := ∃ v, e = .returned v ∧ Own2 w' w.heap.size v (cutsL E T) ∧ w.grownBy w' none

set_option maxHeartbeats 4000000 in
set_option maxRecDepth 10000 in
theorem cutsOf_at (n : Nat) (pv tv : Value) (ps : List Prt) (T : List Nat) (w : World) (hp : PartsAt w pv ps) (hG : Good (n : Int) ps n) (hT : RowG nv w tv T) (hTl : ∀ x ∈ T, x < ps.length) (hT16 : T.length ≤ 16) :
    Calls Tryz.prog 86 #[.agg #[.int .i64 (n : Nat), pv], tv] w fun e w' => CutsE w (prs ps) T e w' := by
  have HP := hide hp
  have HT := hide hT
  obtain ⟨ao, cap, rfl, h1, h2, h3⟩ := hp
  obtain ⟨to_, tc, rfl, t1, t2, t3⟩ := hT
  unfold maxLen at h2 t2
  have HG := hide hG
  have HTC := hide t3
  have HTL := hide hTl
  have g3 := hG.len
  have g2 := hG.hi
  clear h3 t3 hTl hG
  have hcl : (cutsL (prs ps) T).length = T.length := by simp [cutsL]
  have HCL := hide hcl
  clear hcl
  go_enter Tryz.func86, Tryz.ntmps86
  go_wp2
  obtain ⟨Wa, hWa⟩ : ∃ W, W = w.alloc (Obj.cells #[.int .i64 (n : Nat), .slice ao ps.length cap] 38) := ⟨_, rfl⟩
  have GW : Hid (w.grownBy Wa none) := by rw [hWa]; exact gr_alloc (gr_refl _ _) _
  have RES : Hid (∀ wr : World, Wa.grownBy wr none → wr.cell? ⟨w.heap.size, 0, none⟩ = some (.int .i64 (n : Nat)) ∧ wr.cell? ⟨w.heap.size, 1, none⟩ = some (.slice ao ps.length cap)) := by
    intro wr hg
    rw [hWa] at hg
    exact ⟨hg.cell (by go_simp) (by simp), hg.cell (by go_simp) (by simp)⟩
  have hws : w.heap.size < Wa.heap.size := by rw [hWa]; simp
  simp only [← hWa]
  clear hWa
  go_loopw [5, 11] (fun ov v wr => Hid (CutsR Wa Wa.heap.size (prs ps) T ov v wr)) (fun _ v _ => T.length - (intOf v).toNat)
  case atStart => exact ⟨0, by omega, rfl, own2_nil, gr_refl _ _⟩
  case round =>
    obtain ⟨i, hi, rfl, l1, l2⟩ := hrel.out
    have L1 := hide l1
    have L2 := hide l2
    obtain ⟨vals, v1, v2, v3⟩ := l1
    obtain ⟨oo, oc, ev⟩ := v1.shape
    subst ev
    obtain ⟨m0, m1⟩ := RES.out wr l2
    have V1 := hide v1
    have V2 := hide v2
    have V3 := hide v3
    clear l2 hrel v1 v2 v3
    have hvl : vals.length = i := by rw [V2.out, List.length_take, HCL.out]; omega
    have HVL := hide hvl
    clear hvl
    by_cases hlt : i < T.length
    · obtain ⟨tb, toff, rfl, htb, htc⟩ := HTC.out i hlt
      have htl := HTL.out T[i] (List.getElem_mem hlt)
      have qt := (gr_none GW.out L2.out).cell htc (by simp)
      have hct : (cutsL (prs ps) T).take (i + 1) = (cutsL (prs ps) T).take i ++ [cutRow (without (prs ps) T T[i]) (prs ps) ((prs ps).getD T[i] (0, 0)).1] := by
        rw [List.take_succ_eq_append_getElem (by rw [HCL.out]; exact hlt)]
        simp [cutsL]
      have HCT := hide hct
      generalize T[i] = x at qt htl HCT
      clear htc hct HTC
      go_wp2_with fail
      refine (sideOf_at n _ _ ps T x _ (HP.out.keep (gr_none GW.out L2.out)) HG.out (HT.out.keep (gr_none GW.out L2.out)) HTL.out hT16 htl).mono ?_
      intro e w3 hS
      obtain ⟨gs, rfl, s1, s2⟩ := hS
      have S1 := hide s1
      have S2 := hide s2
      have n0 := s2.cell m0 (by simp)
      have n1 := s2.cell m1 (by simp)
      have hsz3 : w.heap.size < w3.heap.size := by have := L2.out.size; have := s2.size; omega
      clear s1 s2 HTL m0 m1 qt
      go_wp2_with fail
      have gbx : Hid (wr.grownBy (w3.alloc (Obj.cells #[.slice (some ⟨gs, 0, none⟩) n n] 42)) none) := gr_alloc S2.out _
      refine (tellEach_at n w3.heap.size gs ((prs ps).getD x (0, 0)).1 _ ps (without (prs ps) T x) _ (HP.out.keep (gr_none GW.out (gr_none L2.out gbx.out))) HG.out (S1.out.keep0 (gr_alloc (gr_refl _ _) _)) (by go_simp) (by simp)).mono ?_
      intro e w4 hTe
      obtain ⟨rv, rfl, r1, r2, r3⟩ := hTe
      obtain ⟨ro, rc, re, _⟩ := r1
      subst re
      have r1' : RowG iv w4 (.slice ro (cutRow (without (prs ps) T x) (prs ps) ((prs ps).getD x (0, 0)).1).length rc) (cutRow (without (prs ps) T x) (prs ps) ((prs ps).getD x (0, 0)).1) := ⟨ro, rc, rfl, ‹_›⟩
      have R1 := hide r1'
      have R2 := hide (gr_none gbx.out r2)
      have R3 := hide r3
      have hR2 := (gr_none gbx.out r2).size
      have hL2 := L2.out.size
      generalize cutRow (without (prs ps) T x) (prs ps) ((prs ps).getD x (0, 0)).1 = row at R1 HCT R3 ⊢
      clear r1' r2 r3 n0 n1
      go_wp2_with (at_builtin; refine wpList_append_gl id 42 (.slice none 0 0) 24 _ rfl _ _ 45 rfl Wa.heap.size Tryz.underlying45 Tryz.infoInts rfl _ vals rfl (V1.out.keep0 (gr_alloc R2.out _)) w4.heap.size (.slice ro row.length rc) rfl (by go_simp) rfl (by rw [HVL.out]; omega) (by omega) (by simp; omega) ?_)
      intro g' cap' w5 o1 o2 o3
      have O1 := hide o1
      have O2 := hide o2
      have O3 := hide o3
      clear o1 o2 o3
      go_wp2
      go_roundw
      case rel =>
        have hgr2 := gr_trans (r := (Value.slice oo vals.length oc).ownBlock) (r1 := none) (gr_alloc (gr_refl w4 none) _) O2.out (fun _ _ e => by cases e) (fun _ _ e => e)
        have hownb : ∀ k, (Value.slice oo vals.length oc).ownBlock = some k → Wa.heap.size ≤ k ∧ k < wr.heap.size := fun k hk => V1.out.fresh k hk
        refine ⟨i + 1, by omega, by go_num, ?_, ?_⟩
        · rw [HCT.out]
          refine Own2.snoc (w1 := w4) (w := w4) (vals := vals) (ov := .slice oo vals.length oc) V2.out ?_ R1.out ⟨_, _, _, rfl⟩ ?_ O1.out hgr2 ?_
          · intro j hj hj'
            obtain ⟨k1, k2, k3⟩ := V3.out j hj hj'
            exact ⟨k1.keep R2.out, k2, fun k hk => ⟨(k3 k hk).1, Nat.lt_of_lt_of_le (k3 k hk).2.1 hR2, (k3 k hk).2.2⟩⟩
          · intro k hk
            obtain ⟨a1, a2⟩ := R3.out k hk
            have hgz := gbx.out.size
            refine ⟨by omega, a2, fun e => ?_⟩
            have := (hownb k e.symm).2
            omega
          · rcases O3.out with h | h
            · exact .inl h
            · right
              rw [h]
              simp
        · exact gr_trans (gr_none L2.out R2.out) hgr2 (fun _ _ e => e) (fun b hb e => by have := (hownb b e.symm).1; omega)
      case measure => simp [intOf]; omega
    · have htk : (cutsL (prs ps) T).take i = cutsL (prs ps) T := List.take_of_length_le (by rw [HCL.out]; omega)
      have HTK := hide htk
      clear htk HTC HTL
      go_wp2
      go_ret
      refine ⟨_, rfl, ?_, gr_none GW.out L2.out⟩
      have h5 := L1.out
      rw [HTK.out] at h5
      obtain ⟨vs, o1, o2, o3⟩ := h5
      refine ⟨vs, ⟨o1.1, ?_⟩, o2, fun i hi hi' => ⟨(o3 i hi hi').1, (o3 i hi hi').2.1, fun k hk => ⟨by have := ((o3 i hi hi').2.2 k hk).1; omega, ((o3 i hi hi').2.2 k hk).2⟩⟩⟩
      rcases o1.2 with h | ⟨g, cap', cur, e, hb, rest⟩
      · exact .inl h
      · exact .inr ⟨g, cap', cur, e, by omega, rest⟩
end Go.Proofs.YtfhamfgcjdhmdaaGreatDoor
