/- voltaicref: has, CutOf, LoopOf. -/
import Derived.Test.YtfhamfgcjdhmdaaGreatDoorRWood
namespace Go.Proofs.YtfhamfgcjdhmdaaGreatDoor
open Go.RowKit
set_option linter.unusedVariables false

def HasR (T : List Nat) (x : Nat) (v : Value) : Prop := ∃ i : Nat, i ≤ T.length ∧ v = .int .i64 i ∧ Hid (∀ y ∈ T.take i, y ≠ x)

set_option maxHeartbeats 1000000 in
theorem has_at (tv : Value) (T : List Nat) (x : Nat) (w : World) (hT : RowG nv w tv T) (h16 : T.length ≤ 16) :
    Calls Tryz.prog 91 #[tv, .int .i64 (x : Nat)] w fun e w' => e = .returned (.bool (T.contains x)) ∧ w' = w := by
  obtain ⟨ao, cap, rfl, h1, h2, h3⟩ := hT
  unfold maxLen at h2
  have HT := hide h3
  obtain ⟨bb, hbb⟩ : ∃ bb, bb = T.contains x := ⟨_, rfl⟩
  rw [← hbb]
  have HBB := hide hbb
  clear h3 hbb
  go_enter Tryz.func91, Tryz.ntmps91
  go_wp2
  go_loop [9] (fun v => HasR T x v) (fun v => T.length - (intOf v).toNat)
  case atStart => exact ⟨0, by omega, rfl, fun y hy => by simp at hy⟩
  case round =>
    obtain ⟨i, hi, rfl, HN⟩ := hrel
    by_cases hlt : i < T.length
    · obtain ⟨b, off, rfl, hb, hc⟩ := HT.out i hlt
      by_cases e : T[i] = x
      · have hin : T.contains x = true := by rw [List.contains_iff_mem]; rw [← e]; exact List.getElem_mem hlt
        rw [e] at hc
        have HIN := hide hin
        clear hin e
        go_wp2
        go_ret
        exact ⟨by rw [HBB.out, HIN.out]; rfl, rfl⟩
      · have hne : (((x : Nat) : Int) == ((T[i] : Nat) : Int)) = false := by
          rw [beq_eq_false_iff_ne]
          intro h
          apply e
          omega
        have HE := hide e
        obtain ⟨y, hy⟩ : ∃ y, y = T[i] := ⟨_, rfl⟩
        rw [← hy] at hc hne
        have HY := hide hy
        clear e hy
        go_wp2
        go_round
        case rel =>
          refine ⟨i + 1, by omega, by go_num, ?_⟩
          intro z hz
          rw [List.take_succ_eq_append_getElem hlt] at hz
          rcases List.mem_append.1 hz with hz | hz
          · exact HN.out z hz
          · simp at hz
            rw [hz]
            exact HE.out
        case measure => simp [intOf]; omega
    · have hnot : T.contains x = false := by
        cases hc : T.contains x with
        | false => rfl
        | true =>
          have hm := List.contains_iff_mem.1 hc
          have ht : T.take i = T := List.take_of_length_le (by omega)
          exact absurd rfl (HN.out x (by rw [ht]; exact hm))
      have HNOT := hide hnot
      clear hnot
      go_wp2
      go_ret
      exact ⟨by rw [HBB.out, HNOT.out]; rfl, rfl⟩

set_option maxHeartbeats 1000000 in
theorem cutAsks_at (k t gt gw : Nat) (tv : Value) (T : List Nat) (w : World) (ct : w.cell? ⟨gt, 0, none⟩ = some (.int .i64 (t : Nat))) (cw : w.cell? ⟨gw, 0, none⟩ = some tv) (hT : RowG nv w tv T) (h16 : T.length ≤ 16) :
    Calls Tryz.prog 90 #[.int .i64 (k : Nat), .pointer (some ⟨gt, 0, none⟩), .pointer (some ⟨gw, 0, none⟩)] w fun e w' => e = .returned (.bool (k != t && T.contains k)) ∧ w' = w := by
  have HT := hide hT
  obtain ⟨ao, cap, rfl, _, _, _⟩ := hT
  by_cases e : k = t
  · subst e
    have hf : (k != k && T.contains k) = false := by simp
    rw [hf]
    clear HT hf
    go_enter Tryz.func90, Tryz.ntmps90
    go_wp2
    go_ret
    exact ⟨rfl, rfl⟩
  · have hne : (((k : Nat) : Int) != ((t : Nat) : Int)) = true := by rw [bne_iff_ne]; omega
    have hb : (k != t) = true := by rw [bne_iff_ne]; exact e
    rw [hb, Bool.true_and]
    obtain ⟨bb, hbb⟩ : ∃ bb, bb = T.contains k := ⟨_, rfl⟩
    rw [← hbb]
    have HBB := hide hbb
    clear e hb hbb
    go_enter Tryz.func90, Tryz.ntmps90
    go_wp2_with fail
    refine (has_at _ T k w HT.out h16).mono ?_
    rintro e w1 ⟨rfl, rfl⟩
    rw [← HBB.out]
    go_wp2
    go_ret
    exact ⟨rfl, rfl⟩

set_option maxHeartbeats 1000000 in
theorem cutSide_at (x n gj gn gt g t a m cap : Nat) (ao : Option Addr) (l : Nat → Nat) (w : World) (hn : n ≤ 8) (hx : x < n) (ha : a < n) (hj : w.cell? ⟨gj, 0, none⟩ = some (.slice (some ⟨g, 0, none⟩) n n)) (hA : IArr w g (labs n l)) (hl : ∀ x, x < n → l x ≤ 8)
    (hn1 : w.cell? ⟨gn, 1, none⟩ = some (.slice ao m cap)) (ht : w.cell? ⟨gt, 0, none⟩ = some (.int .i64 (t : Nat))) (htm : t < m) (hmc : m ≤ cap) (hm16 : m ≤ 16) (hcap : cap ≤ 9223372036854775807) (hp : ∃ b off, ao = some ⟨b, off, none⟩ ∧ w.cell? ⟨b, off + t * 6 + 1, none⟩ = some (.int .i64 (a : Nat))) :
    Calls Tryz.prog 92 #[.int .i64 (x : Nat), .pointer (some ⟨gj, 0, none⟩), .pointer (some ⟨gn, 0, none⟩), .pointer (some ⟨gt, 0, none⟩)] w fun e w' => e = .returned (.bool (decide (l x = l a))) ∧ w.grownBy w' none := by
  obtain ⟨b, off, rfl, q1⟩ := hp
  have cx := hA.cell x (by rw [labs_length]; exact hx)
  have ca := hA.cell a (by rw [labs_length]; exact ha)
  rw [labs_get] at cx ca
  have bx := hl x hx
  have ba := hl a ha
  have hd : (((l x : Nat) : Int) == ((l a : Nat) : Int)) = decide (l x = l a) := by
    rw [Bool.eq_iff_iff]
    simp only [beq_iff_eq, decide_eq_true_eq]
    omega
  generalize decide (l x = l a) = bb at hd ⊢
  generalize l x = y at cx bx hd
  generalize l a = z at ca ba hd
  clear hA hl
  go_enter Tryz.func92, Tryz.ntmps92
  go_wp2
  go_quiet (fail)
  go_wp2
  go_ret
  exact ⟨rfl, gr_d _⟩

/-- What CutOf answers. -/
def CutOfE (w : World) (m : Nat) (row : List Int) (e : Ending) (w' : World) : Prop := ∃ g, e = .returned (.slice (some ⟨g, 0, none⟩) m m) ∧ IArr w' g row ∧ w.grownBy w' none ∧ w.heap.size ≤ g

structure CutB (wr : World) (B n m cap t gj g : Nat) (ao : Option Addr) (l : Nat → Nat) : Prop where
  n0 : wr.cell? ⟨B, 0, none⟩ = some (.int .i64 (n : Nat))
  n1 : wr.cell? ⟨B, 1, none⟩ = some (.slice ao m cap)
  tc : wr.cell? ⟨B + 2, 0, none⟩ = some (.int .i64 (t : Nat))
  jc : wr.cell? ⟨gj, 0, none⟩ = some (.slice (some ⟨g, 0, none⟩) n n)
  ar : IArr wr g (labs n l)

theorem CutB.keep {wr wx : World} {B n m cap t gj g : Nat} {ao : Option Addr} {l : Nat → Nat} {row : Option Nat} (h : CutB wr B n m cap t gj g ao l) (hg : wr.grownBy wx row) (h1 : some B ≠ row) (h2 : some (B + 2) ≠ row) (h3 : some gj ≠ row) (h4 : some g ≠ row) : CutB wx B n m cap t gj g ao l :=
  ⟨hg.cell h.n0 h1, hg.cell h.n1 h1, hg.cell h.tc h2, hg.cell h.jc h3, h.ar.keep hg h4⟩
theorem CutB.keep0 {wr wx : World} {B n m cap t gj g : Nat} {ao : Option Addr} {l : Nat → Nat} (h : CutB wr B n m cap t gj g ao l) (hg : wr.grownBy wx none) : CutB wx B n m cap t gj g ao l := h.keep hg (by simp) (by simp) (by simp) (by simp)

def CutOR (w : World) (n m cap t gj g go_ : Nat) (ao : Option Addr) (l : Nat → Nat) (row : List Int) (v : Value) (wr : World) : Prop :=
  ∃ i : Nat, i ≤ m ∧ v = .int .i64 i ∧ CutB wr w.heap.size n m cap t gj g ao l ∧ IArr wr go_ (row.take i ++ List.replicate (m - i) 0) ∧ w.grownBy wr none

theorem row_set (row : List Int) (m i : Nat) (x : Int) (hl : row.length = m) (hi : i < m) (hx : row[i]'(by omega) = x) : (row.take i ++ List.replicate (m - i) 0).set i x = row.take (i + 1) ++ List.replicate (m - (i + 1)) 0 := by
  have h1 : (row.take i).length = i := by rw [List.length_take]; omega
  rw [List.set_append_right _ _ (by omega), h1, Nat.sub_self, List.take_succ_eq_append_getElem (by omega), hx, List.append_assoc]
  congr 1
  rw [show m - i = (m - (i + 1)) + 1 from by omega, List.replicate_succ]
  rfl

theorem row_zero (row : List Int) (m i : Nat) (hl : row.length = m) (hi : i < m) (hx : row[i]'(by omega) = 0) : row.take i ++ List.replicate (m - i) 0 = row.take (i + 1) ++ List.replicate (m - (i + 1)) 0 := by
  rw [← row_set row m i 0 hl hi hx]
  have h1 : (row.take i).length = i := by rw [List.length_take]; omega
  rw [List.set_append_right _ _ (by omega), h1, Nat.sub_self]
  congr 1
  rw [show m - i = (m - (i + 1)) + 1 from by omega, List.replicate_succ]
  rfl

theorem side_dec (L : List Pr) (a x : Nat) : side L a x = if decide (labF L x = labF L a) then 1 else 0 := by
  unfold side
  by_cases h : labF L x = labF L a <;> simp [h]

set_option maxHeartbeats 8000000 in
set_option maxRecDepth 10000 in
theorem cutOf_at (n t : Nat) (pv tv : Value) (ps : List Prt) (w : World) (hp : PartsAt w pv ps) (hG : Good (n : Int) ps n) (hT : RowG nv w tv (treeOf (prs ps))) (ht : t < ps.length) :
    Calls Tryz.prog 25 #[.agg #[.int .i64 (n : Nat), pv], tv, .int .i64 (t : Nat)] w fun e w' => CutOfE w ps.length (cutRow (without (prs ps) (treeOf (prs ps)) t) (prs ps) ((prs ps).getD t (0, 0)).1) e w' := by
  have HP := hide hp
  have HG0 := hide hG
  have HTR := hide hT
  obtain ⟨ao, cap, rfl, h1, h2, h3⟩ := hp
  obtain ⟨to_, tcap, rfl, _, _, _⟩ := hT
  unfold maxLen at h2
  obtain ⟨_, g1, g2, g3, g4⟩ := hG
  have HE := hide g4
  have HPC := hide h3
  have hpl : (prs ps).length = ps.length := by simp [prs]
  have HPL := hide hpl
  have ht16 : (treeOf (prs ps)).length ≤ 16 := by
    have := treeUpto_len (prs ps) (prs ps).length
    unfold treeOf
    omega
  obtain ⟨a, hat⟩ : ∃ a, a = ((prs ps).getD t (0, 0)).1 := ⟨_, rfl⟩
  obtain ⟨ta, tb, te1, te2, te3, te4⟩ := g4 t ht
  have hata : a = ta := by rw [hat, prs_get ht, te1]; simp
  have hQ : Hid (∃ b off, ao = some ⟨b, off, none⟩ ∧ w.cell? ⟨b, off + t * 6 + 1, none⟩ = some (.int .i64 (a : Nat))) := by
    obtain ⟨b, off, e, _, c0, c1, _⟩ := h3 t ht
    rw [te1, ← hata] at c1
    exact ⟨b, off, e, c1⟩
  rw [← hat]
  have han : a < n := by omega
  obtain ⟨L, hL⟩ : ∃ L, L = without (prs ps) (treeOf (prs ps)) t := ⟨_, rfl⟩
  rw [← hL]
  have hrl : (cutRow L (prs ps) a).length = ps.length := by simp [cutRow, hpl]
  obtain ⟨row, hrow⟩ : ∃ row, row = cutRow L (prs ps) a := ⟨_, rfl⟩
  rw [← hrow] at hrl ⊢
  have HROW := hide hrow
  have HRL := hide hrl
  have HL := hide hL
  clear h3 g4 hpl hat te1 te2 te3 te4 hata hrow hrl hL
  go_enter Tryz.func25, Tryz.ntmps25
  go_wp2_with fail
  obtain ⟨W, hW⟩ : ∃ W, W = ((w.alloc (Obj.cells #[.int .i64 (n : Nat), .slice ao ps.length cap] 38)).alloc (Obj.cells #[.slice to_ (treeOf (prs ps)).length tcap] 42)).alloc (Obj.cells #[.int .i64 (t : Nat)] 3) := ⟨_, rfl⟩
  have GW : Hid (w.grownBy W none) := by rw [hW]; exact gr_alloc (gr_alloc (gr_alloc (gr_refl _ _) _) _) _
  have b0 : W.cell? ⟨w.heap.size, 0, none⟩ = some (.int .i64 (n : Nat)) := by rw [hW]; go_simp
  have b1 : W.cell? ⟨w.heap.size, 1, none⟩ = some (.slice ao ps.length cap) := by rw [hW]; go_simp
  have b2 : W.cell? ⟨w.heap.size + 1, 0, none⟩ = some (.slice to_ (treeOf (prs ps)).length tcap) := by rw [hW]; go_simp
  have b3 : W.cell? ⟨w.heap.size + 2, 0, none⟩ = some (.int .i64 (t : Nat)) := by rw [hW]; go_simp
  have hWz : W.heap.size = w.heap.size + 3 := by rw [hW]; simp
  simp only [← hW]
  clear hW
  refine (joined_cut n _ ps (fun x => x != t && (treeOf (prs ps)).contains x) (.pointer (some ⟨w.heap.size + 2, 0, none⟩)) (.pointer (some ⟨w.heap.size + 1, 0, none⟩)) W (HP.out.keep GW.out) HG0.out ?hcl).mono ?_
  case hcl =>
    intro j wx hj hgx
    refine (cutAsks_at j t (w.heap.size + 2) (w.heap.size + 1) _ (treeOf (prs ps)) wx (hgx.cell b3 (by simp)) (hgx.cell b2 (by simp)) (HTR.out.keep (gr_none GW.out hgx)) ht16).mono ?_
    rintro e wy ⟨rfl, rfl⟩
    exact ⟨rfl, gr_refl _ _⟩
  intro e w1 hE
  obtain ⟨g, rfl, a1, a2, a3⟩ := hE
  rw [picked_without (prs ps) t _ (by rw [HPL.out]; exact Nat.le_refl _), ← HL.out] at a1
  have b0 := a2.cell b0 (by simp)
  have b1 := a2.cell b1 (by simp)
  have b3 := a2.cell b3 (by simp)
  have hgl := a1.lt
  have A1 := hide a1
  have G1 := hide (gr_none GW.out a2)
  have hw1 : w.heap.size + 3 ≤ w1.heap.size := by have := a2.size; omega
  have hb0 : w.heap.size < w1.heap.size := by omega
  have hb2 : w.heap.size + 2 < w1.heap.size := by omega
  have hl8 : Hid (∀ x, x < n → labF L x ≤ 8) := fun x hx => by have := lab_le L x; omega
  clear a1 a2 b2 hWz
  go_wp2_with (at_make; refine wpList_make_g iv 3 0 8 _ rfl _ _ 42 rfl Tryz.underlying42 Tryz.infoInt rfl _ _ _ _ ps.length rfl rfl (by omega) (by omega) (by omega) (by omega) ?_)
  intro w2 harr hgr
  obtain ⟨W2, hW2⟩ : ∃ W2, W2 = w1.alloc (Obj.cells #[.slice (some ⟨g, 0, none⟩) n n] 42) := ⟨_, rfl⟩
  rw [← hW2] at hgr
  have gW2 : w1.grownBy W2 none := by rw [hW2]; exact gr_alloc (gr_refl _ _) _
  have j0 : W2.cell? ⟨w1.heap.size, 0, none⟩ = some (.slice (some ⟨g, 0, none⟩) n n) := by rw [hW2]; go_simp
  have CB : Hid (CutB w2 w.heap.size n ps.length cap t w1.heap.size g ao (labF L)) := by
    have gg := gr_none gW2 hgr
    exact ⟨gg.cell b0 (by simp), gg.cell b1 (by simp), gg.cell b3 (by simp), hgr.cell j0 (by simp), A1.out.keep0 gg⟩
  have hgo : g < w1.heap.size + 1 ∧ w.heap.size + 2 < w1.heap.size + 1 := by omega
  obtain ⟨gj, hgj⟩ : ∃ gj, gj = w1.heap.size := ⟨_, rfl⟩
  rw [← hgj] at harr CB hgo hgl hb0 hb2 ⊢
  have AR := hide harr
  have G2 := hide (gr_none G1.out (gr_none gW2 hgr))
  have n1 := CB.out.n1
  clear harr hgr gW2 j0 hW2 hgj b0 b1 b3
  go_wp2
  go_loopw [23] (fun v wr => Hid (CutOR w n ps.length cap t gj g (gj + 1) ao (labF L) row v wr)) (fun v _ => ps.length - (intOf v).toNat)
  case atStart =>
    refine ⟨0, by omega, rfl, CB.out, ?_, G2.out⟩
    simpa using AR.out
  case round =>
    obtain ⟨i, hi, rfl, l1, l2, l3⟩ := hrel.out
    have L1 := hide l1
    have L2 := hide l2
    have L3 := hide l3
    clear l1 l2 l3 hrel n1
    by_cases hlt : i < ps.length
    · obtain ⟨b, off, eao, hb, c0, c1, c2, c3, c4, c5, c6⟩ := HPC.out i hlt
      have hgg := L3.out
      obtain ⟨ea, eb, e1, e2, e3, e4⟩ := HE.out i hlt
      have q0 := hgg.cell c0 (by simp)
      have q1 := hgg.cell c1 (by simp)
      have q2 := hgg.cell c2 (by simp)
      have q3 := hgg.cell c3 (by simp)
      have q4 := hgg.cell c4 (by simp)
      have q5 := hgg.cell c5 (by simp)
      have hri : row[i]'(by rw [HRL.out]; exact hlt) = side L a ea - side L a eb := by
        have e : (prs ps)[i]'(by rw [HPL.out]; exact hlt) = (ea, eb) := by
          have := prs_get (ps := ps) hlt
          rw [List.getD_eq_getElem?_getD, List.getElem?_eq_getElem (by rw [HPL.out]; exact hlt)] at this
          simp only [Option.getD_some] at this
          rw [this, e1, e2]
          simp
        have h5 := HROW.out
        subst h5
        simp only [cutRow, List.getElem_map, e]
      rw [e1] at q1
      rw [e2] at q2
      rw [side_dec, side_dec] at hri
      generalize ps[i].kind = z0 at q0
      generalize ps[i].c = z3 at q3
      generalize ps[i].d = z4 at q4
      generalize ps[i].v = z5 at q5
      subst eao
      have hcc : (L2.out).lt = (L2.out).lt := rfl
      have hcell : ∃ v, wr.cell? ⟨gj + 1, i, none⟩ = some v := by
        refine ⟨_, L2.out.cell i ?_⟩
        rw [List.length_append, List.length_take, List.length_replicate, HRL.out]
        omega
      obtain ⟨v0, hv0⟩ := hcell
      have hfr := L2.out.free i
      obtain ⟨W3, hW3⟩ : ∃ W3, W3 = wr.alloc (Obj.cells #[.int .i64 z0, .int .i64 (ea : Nat), .int .i64 (eb : Nat), .int .i64 z3, .int .i64 z4, .string z5] 62) := ⟨_, rfl⟩
      have GW3 : Hid (wr.grownBy W3 none) := by rw [hW3]; exact gr_alloc (gr_refl _ _) _
      have HW3 := hide hW3
      have QT := hide hQ.out
      clear c0 c1 c2 c3 c4 c5 c6 hgg e1 e2 hW3 HPC hcc
      have SD : Hid (∀ (x : Nat) (wx : World), x < n → CutB wx w.heap.size n ps.length cap t gj g (some ⟨b, off, none⟩) (labF L) → w.grownBy wx none → Calls Tryz.prog 92 #[.int .i64 (x : Nat), .pointer (some ⟨gj, 0, none⟩), .pointer (some ⟨w.heap.size, 0, none⟩), .pointer (some ⟨w.heap.size + 2, 0, none⟩)] wx fun e wy => e = .returned (.bool (decide (labF L x = labF L a))) ∧ wx.grownBy wy none) := by
        intro x wx hx B hgx
        obtain ⟨qb, qo, qe, qc⟩ := QT.out
        exact cutSide_at x n gj w.heap.size (w.heap.size + 2) g t a ps.length cap _ (labF L) wx g2 hx han B.jc B.ar hl8.out B.n1 B.tc ht h1 g3 (by omega) ⟨qb, qo, qe, hgx.cell qc (by simp)⟩
      have p1 : W3.cell? ⟨wr.heap.size, 1, none⟩ = some (.int .i64 (ea : Nat)) := by rw [HW3.out]; go_simp
      have p2 : W3.cell? ⟨wr.heap.size, 2, none⟩ = some (.int .i64 (eb : Nat)) := by rw [HW3.out]; go_simp
      have C0 := hide (L1.out.keep0 GW3.out)
      have G0 := hide (gr_none L3.out GW3.out)
      have O0 := hide (L2.out.keep0 GW3.out)
      have hpg : gj + 1 < wr.heap.size := L2.out.lt
      clear L1 L2 L3 GW3 hv0 hfr
      cases hA : decide (labF L ea = labF L a) with
      | true =>
        cases hB : decide (labF L eb = labF L a) with
        | true =>
          rw [hA, hB] at hri
          have hri : row[i]'(by rw [HRL.out]; exact hlt) = 0 := by rw [hri]; rfl
          have HRI := hide hri
          clear hri
          go_wp2_with fail
          simp only [← HW3.out]
          refine (SD.out ea _ e3 C0.out G0.out).mono ?_
          rintro e x1 ⟨rfl, gx⟩
          rw [hA]
          have p1 := gx.cell p1 (by simp)
          have p2 := gx.cell p2 (by simp)
          have C1 := hide (C0.out.keep0 gx)
          have G1 := hide (gr_none G0.out gx)
          have O1 := hide (O0.out.keep0 gx)
          clear gx C0 G0 O0
          go_wp2_with fail
          refine (SD.out eb _ e4 C1.out G1.out).mono ?_
          rintro e x2 ⟨rfl, gx⟩
          rw [hB]
          have p1 := gx.cell p1 (by simp)
          have p2 := gx.cell p2 (by simp)
          have C2 := hide (C1.out.keep0 gx)
          have G2 := hide (gr_none G1.out gx)
          have O2 := hide (O1.out.keep0 gx)
          clear gx C1 G1 O1
          go_wp2_with fail
          refine (SD.out ea _ e3 C2.out G2.out).mono ?_
          rintro e x3 ⟨rfl, gx⟩
          rw [hA]
          have p1 := gx.cell p1 (by simp)
          have p2 := gx.cell p2 (by simp)
          have C3 := hide (C2.out.keep0 gx)
          have G3 := hide (gr_none G2.out gx)
          have O3 := hide (O2.out.keep0 gx)
          clear gx C2 G2 O2
          go_wp2
          go_roundw
          case rel =>
            refine ⟨i + 1, by omega, by go_num, C3.out, ?_, G3.out⟩
            rw [← row_zero row ps.length i HRL.out hlt HRI.out]
            exact O3.out
          case measure => simp [intOf]; omega
        | false =>
          rw [hA, hB] at hri
          have hri : row[i]'(by rw [HRL.out]; exact hlt) = 1 := by rw [hri]; rfl
          have HRI := hide hri
          clear hri
          go_wp2_with fail
          simp only [← HW3.out]
          refine (SD.out ea _ e3 C0.out G0.out).mono ?_
          rintro e x1 ⟨rfl, gx⟩
          rw [hA]
          have p1 := gx.cell p1 (by simp)
          have p2 := gx.cell p2 (by simp)
          have C1 := hide (C0.out.keep0 gx)
          have G1 := hide (gr_none G0.out gx)
          have O1 := hide (O0.out.keep0 gx)
          clear gx C0 G0 O0
          go_wp2_with fail
          refine (SD.out eb _ e4 C1.out G1.out).mono ?_
          rintro e x2 ⟨rfl, gx⟩
          rw [hB]
          have p1 := gx.cell p1 (by simp)
          have p2 := gx.cell p2 (by simp)
          have C2 := hide (C1.out.keep0 gx)
          have G2 := hide (gr_none G1.out gx)
          have O2 := hide (O1.out.keep0 gx)
          clear gx C1 G1 O1
          have hf1 := O2.out.free i
          obtain ⟨v1, hv1⟩ : ∃ v, x2.cell? ⟨gj + 1, i, none⟩ = some v := ⟨_, O2.out.cell i (by rw [List.length_append, List.length_take, List.length_replicate, HRL.out]; omega)⟩
          have hset := O2.out.set i 1 (.int .i64 1) rfl
          rw [row_set row ps.length i 1 HRL.out hlt HRI.out] at hset
          have OS := hide hset
          have kS : x2.grownBy (x2.setCell ⟨gj + 1, i, none⟩ (.int .i64 1)) (some (gj + 1)) := gr_row (gr_refl _ _) (gj + 1) i _ rfl
          have CS := hide (C2.out.keep kS (by simp; omega) (by simp; omega) (by simp) (by simp; omega))
          have GS := hide (gr_in G2.out kS (by omega))
          have p1S := kS.cell p1 (by simp; omega)
          have p2S := kS.cell p2 (by simp; omega)
          clear hset kS
          go_wp2_with fail
          obtain ⟨W4, hW4⟩ : ∃ W4, W4 = x2.setCell ⟨gj + 1, i, none⟩ (.int .i64 1) := ⟨_, rfl⟩
          simp only [← hW4]
          rw [← hW4] at OS CS GS p1S p2S
          clear hW4
          refine (SD.out ea _ e3 CS.out GS.out).mono ?_
          rintro e x9 ⟨rfl, gx⟩
          rw [hA]
          have C9 := hide (CS.out.keep0 gx)
          have G9 := hide (gr_none GS.out gx)
          have O9 := hide (OS.out.keep0 gx)
          clear gx
          go_wp2
          go_roundw
          case rel =>
            exact ⟨i + 1, by omega, by go_num, C9.out, O9.out, G9.out⟩
          case measure => simp [intOf]; omega
      | false =>
        cases hB : decide (labF L eb = labF L a) with
        | true =>
          rw [hA, hB] at hri
          have hri : row[i]'(by rw [HRL.out]; exact hlt) = (-1) := by rw [hri]; rfl
          have HRI := hide hri
          clear hri
          go_wp2_with fail
          simp only [← HW3.out]
          refine (SD.out ea _ e3 C0.out G0.out).mono ?_
          rintro e x1 ⟨rfl, gx⟩
          rw [hA]
          have p1 := gx.cell p1 (by simp)
          have p2 := gx.cell p2 (by simp)
          have C1 := hide (C0.out.keep0 gx)
          have G1 := hide (gr_none G0.out gx)
          have O1 := hide (O0.out.keep0 gx)
          clear gx C0 G0 O0
          go_wp2_with fail
          refine (SD.out ea _ e3 C1.out G1.out).mono ?_
          rintro e x2 ⟨rfl, gx⟩
          rw [hA]
          have p1 := gx.cell p1 (by simp)
          have p2 := gx.cell p2 (by simp)
          have C2 := hide (C1.out.keep0 gx)
          have G2 := hide (gr_none G1.out gx)
          have O2 := hide (O1.out.keep0 gx)
          clear gx C1 G1 O1
          go_wp2_with fail
          refine (SD.out eb _ e4 C2.out G2.out).mono ?_
          rintro e x3 ⟨rfl, gx⟩
          rw [hB]
          have p1 := gx.cell p1 (by simp)
          have p2 := gx.cell p2 (by simp)
          have C3 := hide (C2.out.keep0 gx)
          have G3 := hide (gr_none G2.out gx)
          have O3 := hide (O2.out.keep0 gx)
          clear gx C2 G2 O2
          have hf1 := O3.out.free i
          obtain ⟨v1, hv1⟩ : ∃ v, x3.cell? ⟨gj + 1, i, none⟩ = some v := ⟨_, O3.out.cell i (by rw [List.length_append, List.length_take, List.length_replicate, HRL.out]; omega)⟩
          have hset := O3.out.set i (-1) (.int .i64 (-1)) rfl
          rw [row_set row ps.length i (-1) HRL.out hlt HRI.out] at hset
          have OS := hide hset
          have kS : x3.grownBy (x3.setCell ⟨gj + 1, i, none⟩ (.int .i64 (-1))) (some (gj + 1)) := gr_row (gr_refl _ _) (gj + 1) i _ rfl
          have CS := hide (C3.out.keep kS (by simp; omega) (by simp; omega) (by simp) (by simp; omega))
          have GS := hide (gr_in G3.out kS (by omega))
          have p1S := kS.cell p1 (by simp; omega)
          have p2S := kS.cell p2 (by simp; omega)
          clear hset kS
          go_wp2
          go_roundw
          case rel =>
            exact ⟨i + 1, by omega, by go_num, CS.out, OS.out, GS.out⟩
          case measure => simp [intOf]; omega
        | false =>
          rw [hA, hB] at hri
          have hri : row[i]'(by rw [HRL.out]; exact hlt) = 0 := by rw [hri]; rfl
          have HRI := hide hri
          clear hri
          go_wp2_with fail
          simp only [← HW3.out]
          refine (SD.out ea _ e3 C0.out G0.out).mono ?_
          rintro e x1 ⟨rfl, gx⟩
          rw [hA]
          have p1 := gx.cell p1 (by simp)
          have p2 := gx.cell p2 (by simp)
          have C1 := hide (C0.out.keep0 gx)
          have G1 := hide (gr_none G0.out gx)
          have O1 := hide (O0.out.keep0 gx)
          clear gx C0 G0 O0
          go_wp2_with fail
          refine (SD.out ea _ e3 C1.out G1.out).mono ?_
          rintro e x2 ⟨rfl, gx⟩
          rw [hA]
          have p1 := gx.cell p1 (by simp)
          have p2 := gx.cell p2 (by simp)
          have C2 := hide (C1.out.keep0 gx)
          have G2 := hide (gr_none G1.out gx)
          have O2 := hide (O1.out.keep0 gx)
          clear gx C1 G1 O1
          go_wp2_with fail
          refine (SD.out eb _ e4 C2.out G2.out).mono ?_
          rintro e x3 ⟨rfl, gx⟩
          rw [hB]
          have p1 := gx.cell p1 (by simp)
          have p2 := gx.cell p2 (by simp)
          have C3 := hide (C2.out.keep0 gx)
          have G3 := hide (gr_none G2.out gx)
          have O3 := hide (O2.out.keep0 gx)
          clear gx C2 G2 O2
          go_wp2
          go_roundw
          case rel =>
            refine ⟨i + 1, by omega, by go_num, C3.out, ?_, G3.out⟩
            rw [← row_zero row ps.length i HRL.out hlt HRI.out]
            exact O3.out
          case measure => simp [intOf]; omega
    · have hie : i = ps.length := by omega
      have h5 := L2.out
      rw [hie, Nat.sub_self, List.replicate_zero, List.append_nil, List.take_of_length_le (by rw [HRL.out]; exact Nat.le_refl _)] at h5
      have H5 := hide h5
      clear h5 hie HPC
      go_wp2
      go_ret
      exact ⟨gj + 1, rfl, H5.out, L3.out, by omega⟩
end Go.Proofs.YtfhamfgcjdhmdaaGreatDoor
