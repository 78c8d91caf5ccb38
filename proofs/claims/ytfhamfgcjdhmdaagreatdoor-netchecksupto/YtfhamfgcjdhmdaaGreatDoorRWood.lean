/- voltaicref: Wood; a set of numbers in a map. -/
import Derived.Test.YtfhamfgcjdhmdaaGreatDoorRJoin
import Derived.Maps.OwnSet
import Derived.Maps.Views
namespace Go.Proofs.YtfhamfgcjdhmdaaGreatDoor
open Go.RowKit Go.Maps
set_option linter.unusedVariables false

theorem Tryz.lawInt : Keyed Tryz.prog 3 := int_keyed Tryz.underlying3
theorem zeroBool (w : World) : (zeroValue 4).run Tryz.prog w = .ok (.bool false) w := by kernel_rfl

/-- Block b is a map that holds true at the numbers of T alone. -/
def SetAt (w : World) (b : Nat) (T : List Nat) : Prop := ∃ D : DataW Unit, w.ownsMap Tryz.prog 3 (plainElem Tryz.prog 4) b T.length D ∧ ∀ k : Nat, k < 100 → D.atKey (.int .i64 (k : Nat)) (.lit (.bool false)) = .lit (.bool (T.contains k))

theorem setAt_made (w : World) : SetAt (w.alloc (.map #[] 0)) w.heap.size [] := ⟨.map [], World.ownsMap_made _ _ _ _, fun k _ => rfl⟩

theorem SetAt.kept {w w' : World} {b : Nat} {T : List Nat} {row : Option Nat} (h : SetAt w b T) (hg : w.grownBy w' row) (hne : some b ≠ row) : SetAt w' b T := by
  obtain ⟨D, h1, h2⟩ := h
  exact ⟨D, h1.kept hg hne, h2⟩

theorem SetAt.lt {w : World} {b : Nat} {T : List Nat} (h : SetAt w b T) : b < w.heap.size := by
  obtain ⟨D, h1, _⟩ := h
  exact h1.lt

theorem wf_small (k : Nat) (hk : k < 100) : (Lit.int .i64 (k : Nat)).wf = true := WalkArith.wf_i64 (by omega)

theorem plainElem_bool_inv {H : Type} {P : Program} {e : TypeId} (he : P.underlying e = some .bool) {v : Value} {z : DataW H × List MemPlace} (h : plainElem P e v = some z) : ∃ x, v = .bool x ∧ z = (.lit (.bool x), []) := by
  unfold plainElem at h
  rw [he] at h
  cases v <;> simp at h
  exact ⟨_, rfl, h.symm⟩

theorem SetAt.look {w : World} {b : Nat} {T : List Nat} (h : SetAt w b T) (k : Nat) (hk : k < 100) : (Instr.lookup 125 (.map (some b)) (.int .i64 (k : Nat)) false).run Tryz.prog w = .ok (.bool (T.contains k)) w := by
  obtain ⟨D, h1, h2⟩ := h
  obtain ⟨v, ps, hrun, hv⟩ := h1.lookup Tryz.lawInt (t := 125) Tryz.underlying125 (zeroBool w) (plainElem_bool Tryz.underlying4 false) (keyOf_int_mk Tryz.underlying3 (wf_small k hk))
  obtain ⟨x, rfl, hx⟩ := plainElem_bool_inv Tryz.underlying4 hv
  have hx1 := congrArg Prod.fst hx
  simp only at hx1
  rw [h2 k hk] at hx1
  have : T.contains k = x := by simpa using hx1
  rw [hrun, this]

/-- 'in[i] = true'. -/
theorem SetAt.put {w : World} {b : Nat} {T : List Nat} (h : SetAt w b T) (k : Nat) (hk : k < 100) (hT : T.length < 100) :
    ∃ w', (Instr.mapUpdate 125 (.map (some b)) (.int .i64 (k : Nat)) (.bool true)).run Tryz.prog w = .ok () w' ∧ SetAt w' b (T ++ [k]) ∧ w.grownBy w' (some b) := by
  obtain ⟨D, h1, h2⟩ := h
  have hkey := keyOf_int_mk (P := Tryz.prog) Tryz.underlying3 (wf_small k hk)
  obtain ⟨w', hrun, r1, r2⟩ := h1.update Tryz.lawInt (t := 125) Tryz.underlying125 (by unfold maxLen; omega) hkey (plainElem_bool Tryz.underlying4 true)
  refine ⟨w', hrun, ⟨_, by rw [List.length_append]; exact r1, fun j hj => ?_⟩, r2⟩
  by_cases e : j = k
  · subst e
    rw [atKey_put_same h1.isMap (show WideAt.IsKeyLit (.int .i64 (j : Nat)) from trivial)]
    simp
  · rw [atKey_put_other (by intro h; apply e; have := Lit.int.inj h; omega), h2 j hj]
    simp [e]

set_option maxHeartbeats 400000 in
theorem woodAsks_at (i gm bm : Nat) (T : List Nat) (w : World) (hi : i < 100) (hc : w.cell? ⟨gm, 0, none⟩ = some (.map (some bm))) (hs : SetAt w bm T) :
    Calls Tryz.prog 89 #[.int .i64 (i : Nat), .pointer (some ⟨gm, 0, none⟩)] w fun e w' => e = .returned (.bool (T.contains i)) ∧ w' = w := by
  have hrun := hs.look i hi
  clear hs
  generalize T.contains i = bb at hrun ⊢
  go_enter Tryz.func89, Tryz.ntmps89
  go_wp2
  go_ret
  exact ⟨rfl, rfl⟩

/-- 'in[i] = true' at the operation. -/
theorem wpList_setPut (w : World) {ops : Array Oper} {rest : List Oper} {o : Oper} {a : Act} {Q : Exit → Act → World → Prop} (hg : o.guard = none) (m x v : Operand) (hop : o.op = Op.mapUpdate 125 m x v)
    (b : Nat) (T : List Nat) (hm : a.eval m = .map (some b)) (hs : SetAt w b T) (k : Nat) (hk : k < 100) (hT : T.length < 100) (hx : a.eval x = .int .i64 (k : Nat)) (hv : a.eval v = .bool true)
    (hK : ∀ w', SetAt w' b (T ++ [k]) → w.grownBy w' (some b) → wpList Tryz.prog ops Q rest (a.put o.dst undef) w') :
    wpList Tryz.prog ops Q (o :: rest) a w := by
  refine wpList_plain hg fun K' hK' => ?_
  obtain ⟨w', hrun, r1, r2⟩ := hs.put k hk hT
  unfold Oper.wp
  simp [execOp, hop, hm, hx, hv, hrun, Result.andThen]
  exact hK' _ _ (hK w' r1 r2)

/-- What Wood answers. -/
def WoodE (w : World) (E : List Pr) (e : Ending) (w' : World) : Prop := ∃ v, e = .returned v ∧ RowG nv w' v (treeOf E) ∧ w.grownBy w' none

structure WoodB (wr : World) (B n m cap : Nat) (ao : Option Addr) (T : List Nat) : Prop where
  n0 : wr.cell? ⟨B, 0, none⟩ = some (.int .i64 (n : Nat))
  n1 : wr.cell? ⟨B, 1, none⟩ = some (.slice ao m cap)
  gm : wr.cell? ⟨B + 2, 0, none⟩ = some (.map (some (B + 1)))
  st : SetAt wr (B + 1) T
  sz : B + 3 ≤ wr.heap.size

theorem WoodB.keep {wr wx : World} {B n m cap : Nat} {ao : Option Addr} {T : List Nat} {row : Option Nat} (h : WoodB wr B n m cap ao T) (hg : wr.grownBy wx row) (hr : ∀ k, row = some k → B + 3 ≤ k) : WoodB wx B n m cap ao T := by
  have ne : ∀ b, b < B + 3 → some b ≠ row := fun b hb e => by have := hr b e.symm; omega
  exact ⟨hg.cell h.n0 (ne _ (by show B < _; omega)), hg.cell h.n1 (ne _ (by show B < _; omega)), hg.cell h.gm (ne _ (by show B + 2 < _; omega)), h.st.kept hg (ne _ (by omega)), Nat.le_trans h.sz hg.size⟩

def WoodR (w : World) (n m cap : Nat) (ao : Option Addr) (E : List Pr) (ov v : Value) (wr : World) : Prop :=
  ∃ i : Nat, i ≤ E.length ∧ v = .int .i64 i ∧ OwnG nv 3 wr (w.heap.size + 3) ov (treeUpto E i) ∧ WoodB wr w.heap.size n m cap ao (treeUpto E i) ∧ w.grownBy wr none

set_option maxHeartbeats 4000000 in
set_option maxRecDepth 10000 in
theorem wood_at (n : Nat) (pv : Value) (ps : List Prt) (w : World) (hp : PartsAt w pv ps) (hG : Good (n : Int) ps n) :
    Calls Tryz.prog 24 #[.agg #[.int .i64 (n : Nat), pv]] w fun e w' => WoodE w (prs ps) e w' := by
  have HP := hide hp
  have HG0 := hide hG
  obtain ⟨ao, cap, rfl, h1, h2, h3⟩ := hp
  unfold maxLen at h2
  obtain ⟨_, g1, g2, g3, g4⟩ := hG
  have HE := hide g4
  have HPC := hide h3
  have hpl : (prs ps).length = ps.length := by simp [prs]
  have HPL := hide hpl
  clear h3 g4 hpl
  have hmm := @run_makeMap Tryz.prog
  go_enter Tryz.func24, Tryz.ntmps24
  go_wp2
  clear hmm
  go_loopw [3, 12] (fun ov v wr => Hid (WoodR w n ps.length cap ao (prs ps) ov v wr)) (fun _ v _ => ps.length - (intOf v).toNat)
  case atStart =>
    refine ⟨0, by omega, rfl, ownG_nil, ⟨?_, ?_, ?_, ?_, ?_⟩, ?_⟩
    · go_simp
    · go_simp
    · go_simp
    · have s1 := setAt_made (w.alloc (Obj.cells #[.int .i64 (n : Nat), .slice ao ps.length cap] 38))
      have e : (w.alloc (Obj.cells #[.int .i64 (n : Nat), .slice ao ps.length cap] 38)).heap.size = w.heap.size + 1 := by simp
      rw [e] at s1
      exact s1.kept (gr_alloc (gr_refl _ none) _) (by simp)
    · simp
    · exact gr_alloc (gr_alloc (gr_alloc (gr_refl _ _) _) _) _
  case round =>
    obtain ⟨i, hi, rfl, l1, l2, l3⟩ := hrel.out
    rw [HPL.out] at hi
    obtain ⟨oo, oc, ev⟩ := l1.shape
    subst ev
    have L1 := hide l1
    have L2 := hide l2
    have L3 := hide l3
    have htl := treeUpto_len (prs ps) i
    have n0 := l2.n0
    have n1 := l2.n1
    have m0 := l2.gm
    have hsz := l2.sz
    have hb0 : w.heap.size < wr.heap.size := by omega
    clear l1 l2 l3 hrel
    by_cases hlt : i < ps.length
    · obtain ⟨b, off, rfl, hb, c0, c1, c2, c3, c4, c5, c6⟩ := HPC.out i hlt
      have hgg := L3.out
      obtain ⟨ea, eb, e1, e2, e3, e4⟩ := HE.out i hlt
      have q0 := hgg.cell c0 (by simp)
      have q1 := hgg.cell c1 (by simp)
      have q2 := hgg.cell c2 (by simp)
      have q3 := hgg.cell c3 (by simp)
      have q4 := hgg.cell c4 (by simp)
      have q5 := hgg.cell c5 (by simp)
      have hpt := prs_get (ps := ps) hlt
      rw [e1, e2, Int.toNat_natCast, Int.toNat_natCast] at hpt
      rw [e1] at q1
      rw [e2] at q2
      have HPT := hide hpt
      generalize ps[i].kind = z0 at q0
      generalize ps[i].c = z3 at q3
      generalize ps[i].d = z4 at q4
      generalize ps[i].v = z5 at q5
      clear c0 c1 c2 c3 c4 c5 c6 hgg e1 e2 hpt HPC
      go_wp2_with fail
      obtain ⟨W2, hW2⟩ : ∃ W2, W2 = wr.alloc (Obj.cells #[.int .i64 z0, .int .i64 (ea : Nat), .int .i64 (eb : Nat), .int .i64 z3, .int .i64 z4, .string z5] 62) := ⟨_, rfl⟩
      have GW2 : Hid (wr.grownBy W2 none) := by rw [hW2]; exact gr_alloc (gr_refl _ _) _
      have p1 : W2.cell? ⟨wr.heap.size, 1, none⟩ = some (.int .i64 (ea : Nat)) := by rw [hW2]; go_simp
      have p2 : W2.cell? ⟨wr.heap.size, 2, none⟩ = some (.int .i64 (eb : Nat)) := by rw [hW2]; go_simp
      simp only [← hW2]
      have hpz : wr.heap.size < W2.heap.size := by rw [hW2]; simp
      clear hW2 q0 q1 q2 q3 q4 q5
      generalize wr.heap.size = gp at p1 p2 hpz hsz ⊢
      have B2 := hide (L2.out.keep GW2.out (fun k e => by cases e))
      have O2 := hide (L1.out.keep0 GW2.out)
      have G2 := hide (gr_none L3.out GW2.out)
      clear L1 L2 L3 GW2 n0 n1 m0
      refine (joined_wood n _ ps (fun x => (treeUpto (prs ps) i).contains x) (.pointer (some ⟨w.heap.size + 2, 0, none⟩)) W2 (HP.out.keep G2.out) HG0.out ?hcl).mono ?_
      case hcl =>
        intro j wx hj hgx
        refine (woodAsks_at j (w.heap.size + 2) (w.heap.size + 1) (treeUpto (prs ps) i) wx (by omega) (hgx.cell B2.out.gm (by simp)) (B2.out.st.kept hgx (by simp))).mono ?_
        rintro e wy ⟨rfl, rfl⟩
        exact ⟨rfl, gr_refl _ _⟩
      intro e w3 hE
      obtain ⟨g, rfl, a1, a2, a3⟩ := hE
      rw [← HPL.out, picked_tree (prs ps) i _ (by rw [HPL.out]; exact hi)] at a1
      have p1 := a2.cell p1 (by simp)
      have p2 := a2.cell p2 (by simp)
      have B3 := hide (B2.out.keep a2 (fun k e => by cases e))
      have O3 := hide (O2.out.keep0 a2)
      have G3 := hide (gr_none G2.out a2)
      have la := a1.cell ea (by rw [labs_length]; exact e3)
      have lb := a1.cell eb (by rw [labs_length]; exact e4)
      rw [labs_get] at la lb
      have hgl := a1.lt
      clear a1 a2 B2 O2 G2
      by_cases heq : labF (sel (prs ps) (treeUpto (prs ps) i)) ea = labF (sel (prs ps) (treeUpto (prs ps) i)) eb
      · have HEQ := hide heq
        rw [heq] at la
        generalize labF (sel (prs ps) (treeUpto (prs ps) i)) eb = x at la lb
        clear heq
        go_wp2
        go_quiet (fail)
        go_wp2
        go_roundw
        case rel =>
          have et : treeUpto (prs ps) (i + 1) = treeUpto (prs ps) i := by
            show (if _ then _ else _) = _
            rw [HPT.out, if_pos HEQ.out]
          refine ⟨i + 1, by rw [HPL.out]; omega, by go_num, ?_, ?_, gr_drewN G3.out _⟩
          · rw [et]; exact O3.out.keep0 (gr_d _)
          · rw [et]; exact B3.out.keep (row := none) (gr_d _) (fun k e => by cases e)
        case measure => simp [intOf]; omega
      · have HEQ := hide heq
        have hne : (((labF (sel (prs ps) (treeUpto (prs ps) i)) ea : Nat) : Int) != ((labF (sel (prs ps) (treeUpto (prs ps) i)) eb : Nat) : Int)) = true := by
          rw [bne_iff_ne]; omega
        generalize labF (sel (prs ps) (treeUpto (prs ps) i)) ea = x at la hne
        generalize labF (sel (prs ps) (treeUpto (prs ps) i)) eb = y at lb hne
        have et : treeUpto (prs ps) (i + 1) = treeUpto (prs ps) i ++ [i] := by
          show (if _ then _ else _) = _
          rw [HPT.out, if_neg HEQ.out]
        have ET := hide et
        clear heq et
        go_wp2
        go_quiet (fail)
        have m3 := B3.out.gm
        go_wp2_with (at_mapUpdate; refine wpList_setPut _ rfl _ _ _ rfl (w.heap.size + 1) _ rfl (B3.out.st.kept (row := none) (gr_d _) (by simp)) i (by omega) (by omega) rfl rfl ?_)
        intro w4 s4 k4
        have K4 := hide (gr_in (gr_drewN G3.out _) k4 (by omega))
        have B4 : Hid (WoodB w4 w.heap.size n ps.length cap (some ⟨b, off, none⟩) (treeUpto (prs ps) (i + 1))) := by
          refine ⟨k4.cell ((gr_d _).cell B3.out.n0 (by simp)) (by simp), k4.cell ((gr_d _).cell B3.out.n1 (by simp)) (by simp), k4.cell ((gr_d _).cell B3.out.gm (by simp)) (by simp), by rw [ET.out]; exact s4, Nat.le_trans B3.out.sz (Nat.le_trans (gr_d _).size k4.size)⟩
        have O4 := hide ((O3.out.keep0 (gr_d _)).keepB k4 (by omega))
        have hb4 := B4.out.sz
        clear s4 k4 B3 O3 G3 la lb m3
        have hbig : (treeUpto (prs ps) i).length ≤ 16 := by omega
        go_wp2_with (at_builtin; refine wpList_append_g nv 3 (iv 0) 8 _ rfl _ _ 42 rfl (w.heap.size + 3) Tryz.underlying42 Tryz.infoInt rfl _ (treeUpto (prs ps) i) rfl (O4.out.keep0 (gr_alloc (gr_refl _ _) _)) w4.heap.size i rfl (by go_simp) rfl (by omega) (by omega) (by simp; omega) ?_)
        intro ao' cap' w5 o1 o2
        have hfr := (O4.out.keep0 (gr_alloc (gr_refl w4 none) (Obj.cells #[.int .i64 (i : Nat)] 3))).fresh
        have B5 := hide ((B4.out.keep (gr_alloc (gr_refl w4 none) (Obj.cells #[.int .i64 (i : Nat)] 3)) (fun k e => by cases e)).keep o2 (fun k e => (hfr k e).1))
        have O5 := hide o1
        have G5 : Hid (w.grownBy w5 none) := gr_trans (gr_alloc K4.out _) o2 (fun _ _ e => e) (fun k hk e => by have := (hfr k e.symm).1; omega)
        clear o1 o2 hfr
        go_wp2
        go_roundw
        case rel =>
          refine ⟨i + 1, by rw [HPL.out]; omega, by go_num, ?_, B5.out, G5.out⟩
          rw [ET.out]
          exact O5.out
        case measure => simp [intOf]; omega
    · have ht : treeUpto (prs ps) i = treeOf (prs ps) := by
        have : i = (prs ps).length := by rw [HPL.out]; omega
        rw [this]
        rfl
      have HT := hide ht
      clear ht HPC
      go_wp2
      go_ret
      refine ⟨_, rfl, ?_, L3.out⟩
      rw [← HT.out]
      exact L1.out.row
end Go.Proofs.YtfhamfgcjdhmdaaGreatDoor
