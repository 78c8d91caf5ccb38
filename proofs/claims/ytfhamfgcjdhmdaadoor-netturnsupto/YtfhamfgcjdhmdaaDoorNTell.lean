/- net: what a cut says of each part. -/
import Derived.Test.YtfhamfgcjdhmdaaDoorNSide
namespace Go.Proofs.YtfhamfgcjdhmdaaDoor
open Go.RowKit
set_option linter.unusedVariables false

theorem side_bd (E : List Pr) (a x : Nat) : side E a x = 0 ∨ side E a x = 1 := by
  unfold side
  split
  · exact .inr rfl
  · exact .inl rfl

set_option maxHeartbeats 1000000 in
set_option maxRecDepth 10000 in
theorem cutTold_at (p : Prt) (n g gs ea eb a : Nat) (E : List Pr) (w : World) (hn : n ≤ 8) (h : IArr w gs (sideL n E a)) (hc : w.cell? ⟨g, 0, none⟩ = some (.slice (some ⟨gs, 0, none⟩) n n)) (hg : g < w.heap.size) (e1 : p.a = (ea : Int)) (e2 : p.b = (eb : Int)) (e3 : ea < n) (e4 : eb < n) :
    Calls Tryd.prog 21 #[p.val, .pointer (some ⟨g, 0, none⟩)] w fun e w' => e = .returned (.int .i64 (side E a ea - side E a eb)) ∧ w.grownBy w' none := by
  have hgs := h.lt
  have ca := h.cell ea (by rw [sideL_length]; exact e3)
  have cb := h.cell eb (by rw [sideL_length]; exact e4)
  rw [sideL_get] at ca cb
  have s1 := side_bd E a ea
  have s2 := side_bd E a eb
  have hx : 0 ≤ side E a ea ∧ side E a ea ≤ 1 := by omega
  have hy : 0 ≤ side E a eb ∧ side E a eb ≤ 1 := by omega
  generalize side E a ea = x at ca hx
  generalize side E a eb = y at cb hy
  obtain ⟨x1, x2⟩ := hx
  obtain ⟨y1, y2⟩ := hy
  unfold Prt.val
  rw [e1, e2]
  generalize p.kind = z0
  generalize p.c = z3
  generalize p.d = z4
  generalize p.v = z5
  clear s1 s2 h e1 e2
  go_enter Tryd.func21, Tryd.ntmps21
  go_wp2
  go_quiet (fail)
  go_wp2
  go_ret
  exact ⟨rfl, gr_drewN (gr_alloc (gr_refl _ _) _) _⟩

/-- What a cut says of each part. -/
def cutRow (E : List Pr) (ps : List Pr) (a : Nat) : List Int := ps.map fun e => side E a e.1 - side E a e.2

def TellR (W : World) (base n gs : Nat) (E : List Pr) (a : Nat) (ps : List Pr) (ov v : Value) (wr : World) : Prop := ∃ i : Nat, i ≤ ps.length ∧ v = .int .i64 i ∧ OwnG iv 3 wr base ov (cutRow E (ps.take i) a) ∧ IArr wr gs (sideL n E a) ∧ W.grownBy wr none

/-- What tellEach answers. -/
def TellE (w : World) (E : List Pr) (a : Nat) (ps : List Pr) (e : Ending) (w' : World) : Prop := ∃ v, e = .returned v ∧ RowG iv w' v (cutRow E ps a) ∧ w.grownBy w' none ∧ (∀ k, v.ownBlock = some k → w.heap.size ≤ k ∧ k < w'.heap.size)

set_option maxHeartbeats 4000000 in
set_option maxRecDepth 10000 in
theorem tellEach_at (n g gs a : Nat) (pv : Value) (ps : List Prt) (E : List Pr) (w : World) (hp : PartsAt w pv ps) (hG : Good (n : Int) ps n) (h : IArr w gs (sideL n E a)) (hc : w.cell? ⟨g, 0, none⟩ = some (.slice (some ⟨gs, 0, none⟩) n n)) (hg : g < w.heap.size) :
    Calls Tryd.prog 20 #[.agg #[.int .i64 (n : Nat), pv], .func (.func 21) #[] #[.pointer (some ⟨g, 0, none⟩)]] w fun e w' => TellE w E a (prs ps) e w' := by
  obtain ⟨ao, cap, rfl, h1, h2, h3⟩ := hp
  unfold maxLen at h2
  obtain ⟨g0, g1, g2, g3, g4⟩ := hG
  have HE := hide g4
  have HPC := hide h3
  have HS := hide h
  have HC := hide hc
  have hpl : (prs ps).length = ps.length := by simp [prs]
  have HPL := hide hpl
  have hgs := h.lt
  clear h3 g4 g0 h hc hpl
  go_enter Tryd.func20, Tryd.ntmps20
  go_wp2
  obtain ⟨Wa, hWa⟩ : ∃ W, W = w.alloc (Obj.cells #[.int .i64 (n : Nat), .slice ao ps.length cap] 24) := ⟨_, rfl⟩
  have GW : Hid (w.grownBy Wa none) := by rw [hWa]; exact gr_alloc (gr_refl _ _) _
  have hws : w.heap.size < Wa.heap.size := by rw [hWa]; simp
  simp only [← hWa]
  clear hWa
  go_loopw [5, 11] (fun ov v wr => Hid (TellR Wa Wa.heap.size n gs E a (prs ps) ov v wr)) (fun _ v _ => ps.length - (intOf v).toNat)
  case atStart => exact ⟨0, by omega, rfl, ownG_nil, HS.out.keep0 GW.out, gr_refl _ _⟩
  case round =>
    obtain ⟨i, hi, rfl, l1, l2, l3⟩ := hrel.out
    rw [HPL.out] at hi
    obtain ⟨oo, oc, ev⟩ := l1.shape
    have hll : (cutRow E ((prs ps).take i) a).length = i := by simp [cutRow, HPL.out]; omega
    subst ev
    have L1 := hide l1
    have L2 := hide l2
    have L3 := hide l3
    have HLL := hide hll
    clear l1 l2 l3 hrel hll
    by_cases hlt : i < ps.length
    · obtain ⟨b, off, rfl, hb, c0, c1, c2, c3, c4, c5, c6⟩ := HPC.out i hlt
      have hgg := gr_none GW.out L3.out
      obtain ⟨ea, eb, e1, e2, e3, e4⟩ := HE.out i hlt
      have q0 := hgg.cell c0 (by simp)
      have q1 := hgg.cell c1 (by simp)
      have q2 := hgg.cell c2 (by simp)
      have q3 := hgg.cell c3 (by simp)
      have q4 := hgg.cell c4 (by simp)
      have q5 := hgg.cell c5 (by simp)
      have qc := hgg.cell HC.out (by simp)
      have hgz : g < wr.heap.size := Nat.lt_of_lt_of_le hg hgg.size
      have hpt := prs_take (ps := ps) hlt
      rw [e1, e2, Int.toNat_natCast, Int.toNat_natCast] at hpt
      have HPT := hide hpt
      have ET := hide (And.intro e1 e2)
      generalize ps[i] = p at q0 q1 q2 q3 q4 q5 ET
      clear c0 c1 c2 c3 c4 c5 c6 hgg e1 e2 hpt HPC
      go_wp2_with fail
      refine (cutTold_at p n g gs ea eb a E _ g2 (L2.out.keep0 (gr_alloc (gr_refl _ _) _)) ((gr_alloc (gr_refl wr none) _).cell qc (by simp)) (by simp; omega) ET.out.1 ET.out.2 e3 e4).mono ?_
      rintro e w3 ⟨rfl, j2⟩
      have J2 := hide (gr_none (gr_alloc (gr_refl _ _) _) j2)
      have hj2 := J2.out.size
      obtain ⟨z, hz⟩ : ∃ z, z = side E a ea - side E a eb := ⟨_, rfl⟩
      rw [← hz]
      have HZ := hide hz
      have hl3 := L3.out.size
      clear j2 hz
      go_wp2_with (at_builtin; refine wpList_append_g iv 3 (iv 0) 8 _ rfl _ _ 32 rfl Wa.heap.size Tryd.underlying32 Tryd.infoInt rfl _ (cutRow E ((prs ps).take i) a) rfl (L1.out.keep0 (gr_alloc J2.out _)) w3.heap.size z rfl (by go_simp) rfl (by rw [HLL.out]; omega) (by omega) (by simp; omega) ?_)
      intro ao' cap' w4 o1 o2
      have O1 := hide o1
      have O2 := hide o2
      clear o1 o2
      go_wp2
      go_roundw
      case rel =>
        have hown : ∀ k, (Value.slice oo (cutRow E ((prs ps).take i) a).length oc).ownBlock = some k → Wa.heap.size ≤ k := fun k hk => (L1.out.fresh k hk).1
        have hgr2 := gr_trans (r := (Value.slice oo (cutRow E ((prs ps).take i) a).length oc).ownBlock) (r1 := none) (gr_alloc J2.out _) O2.out (fun _ _ e => by cases e) (fun _ _ e => e)
        refine ⟨i + 1, by rw [HPL.out]; omega, by go_num, ?_, ?_, ?_⟩
        · rw [HPT.out]
          have e : cutRow E ((prs ps).take i ++ [(ea, eb)]) a = cutRow E ((prs ps).take i) a ++ [z] := by
            rw [HZ.out]
            simp [cutRow]
          rw [e]
          exact O1.out
        · refine L2.out.keep hgr2 ?_
          intro e
          have := hown gs e.symm
          omega
        · exact gr_trans L3.out hgr2 (fun _ _ e => e) (fun b hb e => by have := hown b e.symm; omega)
      case measure => simp [intOf]; omega
    · have htk : (prs ps).take i = prs ps := List.take_of_length_le (by rw [HPL.out]; omega)
      have HTK := hide htk
      clear htk HPC
      go_wp2
      go_ret
      refine ⟨_, rfl, ?_, gr_none GW.out L3.out, ?_⟩
      rotate_left
      · intro k hk
        have := L1.out.fresh k hk
        omega
      have h5 := L1.out.row
      show RowG iv wr (.slice oo (cutRow E ((prs ps).take i) a).length oc) _
      rw [HTK.out] at h5 ⊢
      exact h5
end Go.Proofs.YtfhamfgcjdhmdaaDoor
