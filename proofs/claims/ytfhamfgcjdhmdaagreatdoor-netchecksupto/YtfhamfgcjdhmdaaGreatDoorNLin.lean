/- net: Linear. -/
import Derived.Test.YtfhamfgcjdhmdaaGreatDoorRChk
namespace Go.Proofs.YtfhamfgcjdhmdaaGreatDoor
open Go.RowKit
set_option linter.unusedVariables false

set_option maxHeartbeats 400000 in
theorem toldL_at (p : Prt) (nodes : Int) (g : Nat) (w : World) (hb : Base w) (hz : p.v.size ≤ 600000000) (hg : g < w.heap.size) (hc : w.cell? ⟨g, 0, none⟩ = some (.int .i64 nodes)) :
    Calls Tryz.prog 83 #[p.val, .pointer (some ⟨g, 0, none⟩)] w fun e w' => e = .returned (.int .i64 (wrongD false p nodes)) ∧ w.grownBy w' none := by
  have HB := hide (hb.keep (World.grownBy_alloc w (Obj.cells #[.int .i64 p.kind, .int .i64 p.a, .int .i64 p.b, .int .i64 p.c, .int .i64 p.d, .string p.v] 62) none))
  have hW := wrong_at p nodes _ HB.out hz
  have HW := hide hW
  unfold Prt.val at HW
  clear hb hW
  unfold Prt.val
  by_cases h8 : p.kind = 8
  · have e : wrongD false p nodes = 3 := by unfold wrongD; rw [if_pos ⟨h8, rfl⟩]
    rw [e, h8]
    clear HW e h8
    go_enter Tryz.func83, Tryz.ntmps83
    go_wp2
    go_ret
    exact ⟨rfl, gr_alloc (gr_refl _ _) _⟩
  · have e : wrongD false p nodes = wrongP p nodes := by unfold wrongD; rw [if_neg (fun h => h8 h.1)]
    rw [e]
    have h8' : (p.kind == 8) = false := by simpa using h8
    clear e h8
    generalize wrongP p nodes = r at HW ⊢
    go_enter Tryz.func83, Tryz.ntmps83
    go_wp2_with fail
    refine HW.out.mono ?_
    rintro e w1 ⟨rfl, g1⟩
    have G1 := hide g1
    clear g1
    go_wp2
    go_ret
    exact ⟨rfl, gr_none (gr_alloc (gr_refl _ _) _) G1.out⟩

def ChkLR (W : World) (nodes : Int) (ps : List Prt) (C : Int × Int) (iv : Value) (wr : World) : Prop := ∃ i : Nat, i ≤ ps.length ∧ iv = .int .i64 i ∧ firstBadD false nodes (ps.drop i) i = C ∧ W.grownBy wr none

set_option maxHeartbeats 2000000 in
set_option maxRecDepth 10000 in
theorem checkL_at (nodes : Int) (pv : Value) (ps : List Prt) (g : Nat) (w : World) (hb : Base w) (hp : PartsAt w pv ps) (hg : g < w.heap.size) (hc : w.cell? ⟨g, 0, none⟩ = some (.int .i64 nodes)) :
    Calls Tryz.prog 80 #[.agg #[.int .i64 nodes, pv], .func (.func 83) #[] #[.pointer (some ⟨g, 0, none⟩)]] w fun e w' => CheckDE false w nodes ps e w' := by
  obtain ⟨ao, cap, rfl, h1, h2, h3⟩ := hp
  unfold maxLen at h2
  by_cases hm : nodes < 1 ∨ 8 < nodes ∨ 16 < ps.length
  · refine (check_many nodes ao ps.length cap _ w hm).mono ?_
    rintro e w' ⟨rfl, hw⟩
    refine ⟨?_, hw⟩
    unfold checkD
    rw [if_pos hm]
  · have hn1 : decide (nodes < 1) = false := by simp; omega
    have hn2 : decide (8 < nodes) = false := by simp; omega
    have hn3 : decide ((16 : Int) < (ps.length : Int)) = false := by simp; omega
    have hl16 : ps.length ≤ 16 := by omega
    have HP := hide h3
    have HBS := hide hb
    have HCG := hide hc
    obtain ⟨C, hC⟩ : ∃ C, firstBadD false nodes ps 0 = C := ⟨_, rfl⟩
    have HCK : Hid (checkD false nodes ps = C) := by
      show _ = _
      unfold checkD
      rw [if_neg hm, hC]
    have HC0 := hide hC
    clear h3 hb hc hm hC
    go_enter Tryz.func80, Tryz.ntmps80
    go_wp2
    obtain ⟨W, hW⟩ : ∃ W, W = (w.alloc (Obj.cells #[.int .i64 nodes, .slice ao ps.length cap] 38)).alloc (Obj.cells #[.int .i64 0, .int .i64 0] 26) := ⟨_, rfl⟩
    have gW : Hid (w.grownBy W none) := by rw [hW]; exact gr_alloc (gr_alloc (gr_refl _ _) _) _
    have rW : Hid (∀ wr : World, W.grownBy wr none → wr.cell? ⟨w.heap.size + 1, 0, none⟩ = some (.int .i64 0) ∧ wr.cell? ⟨w.heap.size + 1, 1, none⟩ = some (.int .i64 0) ∧ (∀ i, wr.frozen? ⟨w.heap.size + 1, i, none⟩ = false)) := by
      intro wr hg
      rw [hW] at hg
      have := res_two hg
      simpa using this
    simp only [← hW]
    clear hW
    go_loopw [26] (fun iv wr => Hid (ChkLR W nodes ps C iv wr)) (fun iv _ => ps.length - (intOf iv).toNat)
    case atStart => exact ⟨0, by omega, rfl, HC0.out, gr_refl _ _⟩
    case round =>
      obtain ⟨i, hi, rfl, hF, hgr⟩ := hrel.out
      obtain ⟨r0, r1, rf⟩ := rW.out wr hgr
      have rf0 := rf 0
      have rf1 := rf 1
      have HF := hide hF
      have HGR := hide hgr
      clear hF hgr rf hrel
      by_cases hlt : i < ps.length
      · obtain ⟨b, off, rfl, hb, c0, c1, c2, c3, c4, c5, c6⟩ := HP.out i hlt
        have hgg := (gr_none gW.out HGR.out)
        have q0 := hgg.cell c0 (by simp)
        have q1 := hgg.cell c1 (by simp)
        have q2 := hgg.cell c2 (by simp)
        have q3 := hgg.cell c3 (by simp)
        have q4 := hgg.cell c4 (by simp)
        have q5 := hgg.cell c5 (by simp)
        have hd : ps.drop i = ps[i] :: ps.drop (i + 1) := List.drop_eq_getElem_cons hlt
        have HD := hide hd
        have HGG := hide hgg
        generalize ps[i] = p at q0 q1 q2 q3 q4 q5 c6 HD
        clear c0 c1 c2 c3 c4 c5 hd hgg
        go_wp2_with fail
        refine (toldL_at p nodes g _ (HBS.out.keep (gr_alloc HGG.out _)) c6 (by have := HGG.out.size; simp; omega) ((gr_alloc HGG.out _).cell HCG.out (by simp))).mono ?_
        rintro e w1 ⟨rfl, g1⟩
        have G1 := hide (gr_none (gr_alloc HGR.out _) g1)
        obtain ⟨t0, t1, tf⟩ := rW.out w1 G1.out
        have tf0 := tf 0
        have tf1 := tf 1
        clear tf g1 HP
        by_cases hz : wrongD false p nodes = 0
        · rw [hz]
          have HZ := hide hz
          clear hz
          go_wp2
          go_roundw
          case rel =>
            refine ⟨i + 1, by omega, by go_num, ?_, G1.out⟩
            have := HF.out
            rw [HD.out, firstBadD, if_pos HZ.out] at this
            exact this
          case measure => simp [intOf]; omega
        · obtain ⟨r, hr⟩ : ∃ r, r = wrongD false p nodes := ⟨_, rfl⟩
          rw [← hr]
          rw [← hr] at hz
          have hz' := ne_beq hz
          have HR := hide hr
          have HZ := hide hz
          clear hz hr
          go_wp2
          refine bodyPost_ret (v := .agg #[.int .i64 r, .int .i64 (i : Nat)]) (by simp [results, Tryz.results80, go_sem, t0, t1]) rfl ?_
          have hf := HF.out
          rw [HD.out, firstBadD, if_neg (by rw [← HR.out]; exact HZ.out), ← HR.out] at hf
          refine ⟨?_, ?_⟩
          · rw [HCK.out, ← hf]
          · exact gr_set (gr_set (gr_none gW.out G1.out) _ _ (by simp)) _ _ (by simp)
      · have hdn : ps.drop i = [] := List.drop_of_length_le (by omega)
        have HDN := hide hdn
        clear hdn HP
        go_wp2
        refine bodyPost_ret (v := .agg #[.int .i64 0, .int .i64 0]) (by simp [results, Tryz.results80, go_sem, r0, r1]) rfl ?_
        have hf := HF.out
        rw [HDN.out, firstBadD] at hf
        refine ⟨?_, ?_⟩
        · rw [HCK.out, ← hf]
        · exact gr_set (gr_set (gr_none gW.out HGR.out) _ _ (by simp)) _ _ (by simp)

set_option maxHeartbeats 1000000 in
set_option maxRecDepth 10000 in
/-- Linear: what is wrong with a net, diodes too. -/
theorem Linear_at (nodes : Int) (pv : Value) (ps : List Prt) (w : World) (hb : Base w) (hp : PartsAt w pv ps) :
    Calls Tryz.prog 18 #[.agg #[.int .i64 nodes, pv]] w fun e w' => CheckDE false w nodes ps e w' := by
  have HB := hide hb
  have HP := hide hp
  obtain ⟨ao, cap, rfl, h1, h2, h3⟩ := hp
  clear h3 hb h2
  go_enter Tryz.func18, Tryz.ntmps18
  go_wp2_with fail
  have gW : w.grownBy ((w.alloc (Obj.cells #[.int .i64 nodes, .slice ao ps.length cap] 38)).alloc (Obj.cells #[.int .i64 0, .int .i64 0] 26)) none := gr_alloc (gr_alloc (gr_refl _ _) _) _
  have GW := hide gW
  clear gW
  refine (checkL_at nodes _ ps w.heap.size _ (HB.out.keep GW.out) (HP.out.keep GW.out) (by simp; omega) (by go_simp)).mono ?_
  intro e w1 hE
  obtain ⟨rfl, g1⟩ := hE
  have HG := hide g1
  have hrr : w1.cell? ⟨w.heap.size + 1, 0, none⟩ = some (.int .i64 0) ∧ w1.cell? ⟨w.heap.size + 1, 1, none⟩ = some (.int .i64 0) ∧ (∀ i, w1.frozen? ⟨w.heap.size + 1, i, none⟩ = false) := by
    have := res_two g1
    simpa using this
  obtain ⟨r0, r1, rf⟩ := hrr
  have rf0 := rf 0
  have rf1 := rf 1
  obtain ⟨C, hC⟩ : ∃ C, C = checkD false nodes ps := ⟨_, rfl⟩
  rw [← hC]
  obtain ⟨C1, C2⟩ := C
  have HC := hide hC
  clear rf g1 hC
  go_wp2
  refine bodyPost_ret (v := .agg #[.int .i64 C1, .int .i64 C2]) (by simp [results, Tryz.results18, go_sem, r0, r1]) rfl ?_
  refine ⟨?_, ?_⟩
  · rw [← HC.out]
  · exact gr_set (gr_set (gr_none GW.out HG.out) _ _ (by simp)) _ _ (by simp)
end Go.Proofs.YtfhamfgcjdhmdaaGreatDoor
