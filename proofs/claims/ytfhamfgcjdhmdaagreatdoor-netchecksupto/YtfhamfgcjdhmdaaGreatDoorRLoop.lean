/- voltaicref: LoopOf. -/
import Derived.Test.YtfhamfgcjdhmdaaGreatDoorRCut
namespace Go.Proofs.YtfhamfgcjdhmdaaGreatDoor
open Go.RowKit
set_option linter.unusedVariables false

def LoopOR (W : World) (g m part : Nat) (T : List Nat) (css : List (List Int)) (v : Value) (wr : World) : Prop := ∃ i : Nat, i ≤ T.length ∧ v = .int .i64 i ∧ IArr wr g ((loopUpto m part T css i).set part 1) ∧ W.grownBy wr none

def LoopOR2 (w w2 : World) (g m part : Nat) (T : List Nat) (css : List (List Int)) (v : Value) (wr : World) : Prop := ∃ i : Nat, i ≤ T.length ∧ v = .int .i64 i ∧ IArr wr g ((loopUpto m part T css i).set part 1) ∧ w.grownBy wr none ∧ w2.grownBy wr (some g)

theorem loopO_succ (m part : Nat) (T : List Nat) (css : List (List Int)) (i : Nat) (hT : part ∉ T) (hi : i < T.length) : (loopUpto m part T css (i + 1)).set part 1 = ((loopUpto m part T css i).set part 1).set (T.getD i 0) (-((css.getD i []).getD part 0)) := by
  have hne : ¬ T.getD i 0 = part := by
    rw [List.getD_eq_getElem?_getD, List.getElem?_eq_getElem hi]
    intro e
    exact hT (e ▸ List.getElem_mem hi)
  show ((loopUpto m part T css i).set (T.getD i 0) _).set part 1 = _
  rw [List.set_comm _ _ hne]

set_option maxHeartbeats 4000000 in
set_option maxRecDepth 10000 in
theorem loopOf_at (n part : Nat) (pv tv : Value) (ps : List Prt) (w : World) (hp : PartsAt w pv ps) (hG : Good (n : Int) ps n) (hT : RowG nv w tv (treeOf (prs ps))) (hpart : part < ps.length) (hnot : part ∉ treeOf (prs ps)) :
    Calls Tryz.prog 27 #[.agg #[.int .i64 (n : Nat), pv], tv, .int .i64 (part : Nat)] w fun e w' => LoopE w ps.length part (treeOf (prs ps)) (cutsL (prs ps) (treeOf (prs ps))) e w' := by
  have HP := hide hp
  have HG0 := hide hG
  have HTR := hide hT
  have HNOT := hide hnot
  obtain ⟨ao, cap, rfl, h1, h2, h3⟩ := hp
  obtain ⟨to_, tcap, rfl, t1, t2, t3⟩ := hT
  unfold maxLen at h2 t2
  have hTC := hide t3
  obtain ⟨_, g1, g2, g3, g4⟩ := hG
  have hpl : (prs ps).length = ps.length := by simp [prs]
  have HTL := hide (treeOf_lt ps)
  have hm16 : ps.length ≤ 16 := by omega
  have ht16 := treeOf_len ps hm16
  have hcl : (cutsL (prs ps) (treeOf (prs ps))).length = (treeOf (prs ps)).length := by simp [cutsL]
  have HROW : Hid (∀ i (h : i < (treeOf (prs ps)).length), (cutsL (prs ps) (treeOf (prs ps))).getD i [] = cutRow (without (prs ps) (treeOf (prs ps)) (treeOf (prs ps))[i]) (prs ps) ((prs ps).getD (treeOf (prs ps))[i] (0, 0)).1) := by
    intro i h
    simp [cutsL, List.getD, h]
  have HRL : Hid (∀ t, (cutRow (without (prs ps) (treeOf (prs ps)) t) (prs ps) ((prs ps).getD t (0, 0)).1).length = ps.length) := fun t => by simp [cutRow, hpl]
  have HBD : Hid (∀ t, ∀ x ∈ cutRow (without (prs ps) (treeOf (prs ps)) t) (prs ps) ((prs ps).getD t (0, 0)).1, -1 ≤ x ∧ x ≤ 1) := fun t => cutRow_bd _ _ _
  obtain ⟨T, hTe⟩ : ∃ T, T = treeOf (prs ps) := ⟨_, rfl⟩
  obtain ⟨css, hcs⟩ : ∃ c, c = cutsL (prs ps) (treeOf (prs ps)) := ⟨_, rfl⟩
  rw [← hcs] at HROW ⊢
  rw [← hTe] at HTR HNOT hTC HTL ht16 t1 ⊢
  have HTE := hide hTe
  have HROW2 : Hid (∀ i (h : i < T.length), css.getD i [] = cutRow (without (prs ps) (treeOf (prs ps)) T[i]) (prs ps) ((prs ps).getD T[i] (0, 0)).1) := by
    intro i h
    subst hTe
    exact HROW.out i h
  clear HROW
  have HCUT : Hid (∀ (wx : World) (t : Nat), w.grownBy wx none → t < ps.length → Calls Tryz.prog 25 #[.agg #[.int .i64 (n : Nat), .slice ao ps.length cap], .slice to_ T.length tcap, .int .i64 (t : Nat)] wx fun e w' => CutOfE wx ps.length (cutRow (without (prs ps) (treeOf (prs ps)) t) (prs ps) ((prs ps).getD t (0, 0)).1) e w') := by
    intro wx t hg ht
    have hr := HTR.out.keep hg
    rw [HTE.out] at hr ⊢
    exact cutOf_at n t _ _ ps wx (HP.out.keep hg) HG0.out hr ht
  clear h3 t3 g4 hpl hcl hcs hTe
  go_enter Tryz.func27, Tryz.ntmps27
  go_wp2_with (at_make; refine wpList_make_g iv 3 0 8 _ rfl _ _ 42 rfl Tryz.underlying42 Tryz.infoInt rfl _ _ _ _ ps.length rfl rfl (by omega) (by omega) (by omega) (by omega) ?_)
  intro w2 harr hgr
  have HR : Hid (IArr w2 (w.heap.size + 1) (List.replicate ps.length 0)) := by first | exact harr | simpa using harr
  have hgr1 := gr_none (gr_alloc (gr_refl w none) _) hgr
  have HGR := hide hgr1
  have RES : Hid (∀ wx, w2.grownBy wx none → wx.cell? ⟨w.heap.size, 0, none⟩ = some (.int .i64 (n : Nat)) ∧ wx.cell? ⟨w.heap.size, 1, none⟩ = some (.slice ao ps.length cap)) := by
    intro wx hg
    have := res_two (gr_none hgr hg)
    exact ⟨this.1, this.2.1⟩
  have RES2 : Hid (∀ (wx : World) (r : Nat), w.heap.size + 1 ≤ r → w2.grownBy wx (some r) → wx.cell? ⟨w.heap.size, 0, none⟩ = some (.int .i64 (n : Nat)) ∧ wx.cell? ⟨w.heap.size, 1, none⟩ = some (.slice ao ps.length cap)) := by
    intro wx r hr hg
    have h0 := RES.out w2 (gr_refl _ _)
    exact ⟨hg.cell h0.1 (by intro e; have := Option.some.inj e; simp at this; omega), hg.cell h0.2 (by intro e; have := Option.some.inj e; simp at this; omega)⟩
  have hfr := HR.out.free part
  obtain ⟨v0, hco⟩ : ∃ v, w2.cell? ⟨w.heap.size + 1, part, none⟩ = some v := ⟨_, HR.out.cell part (by simp; exact hpart)⟩
  have W3 : Hid (IArr (w2.setCell ⟨w.heap.size + 1, part, none⟩ (.int .i64 1)) (w.heap.size + 1) ((loopUpto ps.length part T css 0).set part 1)) := HR.out.set part 1 _ rfl
  have G3 : Hid (w2.grownBy (w2.setCell ⟨w.heap.size + 1, part, none⟩ (.int .i64 1)) (some (w.heap.size + 1))) := gr_row (gr_refl _ _) _ _ _ rfl
  clear harr hgr hgr1
  go_wp2
  go_loopw [19] (fun v wr => Hid (LoopOR2 w w2 (w.heap.size + 1) ps.length part T css v wr)) (fun v _ => T.length - (intOf v).toNat)
  case atStart => exact ⟨0, by omega, rfl, W3.out, gr_set HGR.out _ _ (by simp), G3.out⟩
  case round =>
    obtain ⟨i, hi, rfl, l1, l2, l3⟩ := hrel.out
    have L1 := hide l1
    have L2 := hide l2
    have L3 := hide l3
    clear l1 l2 l3 hrel
    by_cases hlt : i < T.length
    · obtain ⟨tb, toff, rfl, htb, htc⟩ := hTC.out i hlt
      have htl := HTL.out T[i] (List.getElem_mem hlt)
      have eT : T.getD i 0 = T[i] := by simp [List.getD, hlt]
      have hrw := HROW2.out i hlt
      have qt := L2.out.cell htc (by simp)
      obtain ⟨x, hx⟩ : ∃ x, x = T[i] := ⟨_, rfl⟩
      rw [← hx] at qt htl eT hrw
      have HRW := hide hrw
      have ET := hide eT
      obtain ⟨r0, r1⟩ := RES2.out wr _ (Nat.le_refl _) L3.out
      clear htc hx eT hrw
      go_wp2_with fail
      refine (HCUT.out _ x L2.out htl).mono ?_
      rintro e w4 ⟨gc, rfl, k1, k2, k3⟩
      have hrl := HRL.out x
      have hbd := HBD.out x
      rw [← HRW.out] at k1 hrl hbd
      obtain ⟨row, hrow⟩ : ∃ row, row = css.getD i [] := ⟨_, rfl⟩
      rw [← hrow] at k1 hrl hbd
      have qc := k1.cell part (by omega)
      obtain ⟨y, hy⟩ : ∃ y, y = row[part]'(by omega) := ⟨_, rfl⟩
      obtain ⟨y1, y2⟩ := hbd (row[part]'(by omega)) (List.getElem_mem _)
      rw [← hy] at qc y1 y2
      have EC : Hid ((css.getD i []).getD part 0 = y) := by
        show _ = _
        rw [← hrow, hy]
        simp [List.getD, hrl, hpart]
      have L4 := hide (L1.out.keep0 k2)
      have hfr := L4.out.free x
      obtain ⟨v1, hco⟩ : ∃ v, w4.cell? ⟨w.heap.size + 1, x, none⟩ = some v := ⟨_, L4.out.cell x (by rw [List.length_set, loopUpto_length]; exact htl)⟩
      have K2 := hide k2
      clear k1 k2 k3 hrl hbd hrow hy
      go_wp2
      go_roundw
      case rel =>
        refine ⟨i + 1, by omega, by go_num, ?_, gr_set (gr_none L2.out K2.out) _ _ (by simp), gr_row (gr_trans L3.out K2.out (fun _ _ e => e) (fun _ _ e => by cases e)) _ _ _ rfl⟩
        rw [loopO_succ _ _ _ _ _ HNOT.out hlt, ET.out, EC.out]
        exact L4.out.set x (-y) _ (by first | rfl | go_num | simp)
      case measure => simp [intOf]; omega
    · obtain rfl : i = T.length := by omega
      go_wp2
      go_ret
      exact ⟨w.heap.size + 1, rfl, L1.out, L2.out, by omega⟩
end Go.Proofs.YtfhamfgcjdhmdaaGreatDoor
