/- net: check, Check. -/
import Derived.Test.YtfhamfgcjdhmdaaDoorNCheck
namespace Go.Proofs.YtfhamfgcjdhmdaaDoor
open Go.RowKit
set_option linter.unusedVariables false

/-- The first part that is wrong. -/
def firstBad (nodes : Int) : List Prt → Nat → Int × Int
  | [], _ => (0, 0)
  | p :: r, i => if wrongP p nodes = 0 then firstBad nodes r (i + 1) else (wrongP p nodes, (i : Int))

/-- Check's answer. -/
def checkN (nodes : Int) (ps : List Prt) : Int × Int := if nodes < 1 ∨ 8 < nodes ∨ 16 < ps.length then (2, 0) else firstBad nodes ps 0

/-- v holds the parts ps. -/
def PartsAt (w : World) (v : Value) (ps : List Prt) : Prop := ∃ ao cap, v = .slice ao ps.length cap ∧ ps.length ≤ cap ∧ cap ≤ maxLen ∧ ∀ i (h : i < ps.length), ∃ b off, ao = some ⟨b, off, none⟩ ∧ b < w.heap.size ∧
  w.cell? ⟨b, off + i * 6, none⟩ = some (.int .i64 ps[i].kind) ∧ w.cell? ⟨b, off + i * 6 + 1, none⟩ = some (.int .i64 ps[i].a) ∧ w.cell? ⟨b, off + i * 6 + 2, none⟩ = some (.int .i64 ps[i].b) ∧ w.cell? ⟨b, off + i * 6 + 3, none⟩ = some (.int .i64 ps[i].c) ∧ w.cell? ⟨b, off + i * 6 + 4, none⟩ = some (.int .i64 ps[i].d) ∧ w.cell? ⟨b, off + i * 6 + 5, none⟩ = some (.string ps[i].v) ∧ ps[i].v.size ≤ 600000000

theorem PartsAt.keep {w w' : World} {v : Value} {ps : List Prt} (h : PartsAt w v ps) (hg : w.grownBy w' none) : PartsAt w' v ps := by
  obtain ⟨ao, cap, e, h1, h2, h3⟩ := h
  refine ⟨ao, cap, e, h1, h2, fun i hi => ?_⟩
  obtain ⟨b, off, e, hb, c0, c1, c2, c3, c4, c5, c6⟩ := h3 i hi
  exact ⟨b, off, e, Nat.lt_of_lt_of_le hb hg.size, hg.cell c0 (by simp), hg.cell c1 (by simp), hg.cell c2 (by simp), hg.cell c3 (by simp), hg.cell c4 (by simp), hg.cell c5 (by simp), c6⟩

/-- What check answers. -/
def CheckE (w : World) (nodes : Int) (ps : List Prt) (e : Ending) (w' : World) : Prop := e = .returned (.agg #[.int .i64 (checkN nodes ps).1, .int .i64 (checkN nodes ps).2]) ∧ w.grownBy w' none

set_option maxHeartbeats 1000000 in
set_option maxRecDepth 10000 in
theorem check_many (nodes : Int) (o : Option Addr) (l cap : Nat) (f : Value) (w : World) (h : nodes < 1 ∨ 8 < nodes ∨ 16 < l) :
    Calls Tryd.prog 22 #[.agg #[.int .i64 nodes, .slice o l cap], f] w fun e w' => e = .returned (.agg #[.int .i64 2, .int .i64 0]) ∧ w.grownBy w' none := by
  by_cases h1 : nodes < 1
  · clear h
    go_enter Tryd.func22, Tryd.ntmps22
    go_wp2
    exact bodyPost_ret (v := .agg #[.int .i64 2, .int .i64 0]) (by simp [results, Tryd.results22, go_sem]) rfl ⟨rfl, gr_alloc (gr_alloc (gr_refl _ _) _) _⟩
  · by_cases h2 : 8 < nodes
    · clear h
      go_enter Tryd.func22, Tryd.ntmps22
      go_wp2
      exact bodyPost_ret (v := .agg #[.int .i64 2, .int .i64 0]) (by simp [results, Tryd.results22, go_sem]) rfl ⟨rfl, gr_alloc (gr_alloc (gr_refl _ _) _) _⟩
    · have h3 : 16 < l := by omega
      have h1' : decide (nodes < 1) = false := by simpa using h1
      have h2' : decide (8 < nodes) = false := by simpa using h2
      clear h
      go_enter Tryd.func22, Tryd.ntmps22
      go_wp2
      exact bodyPost_ret (v := .agg #[.int .i64 2, .int .i64 0]) (by simp [results, Tryd.results22, go_sem]) rfl ⟨rfl, gr_alloc (gr_alloc (gr_refl _ _) _) _⟩

/-- The cells of a result of two, in a world that has grown since. -/
theorem res_two {w W : World} {t : TypeId} {u v : Value} (h : (w.alloc (Obj.cells #[u, v] t)).grownBy W none) :
    W.cell? ⟨w.heap.size, 0, none⟩ = some u ∧ W.cell? ⟨w.heap.size, 1, none⟩ = some v ∧ (∀ i, W.frozen? ⟨w.heap.size, i, none⟩ = false) := by
  have e : W.heap[w.heap.size]? = some (Obj.cells #[u, v] t (0, 0)) := by
    rw [h.block w.heap.size (by simp) (by simp)]
    exact heap_alloc_new w _
  refine ⟨?_, ?_, fun i => ?_⟩ <;> simp [World.cell?, World.frozen?, e]

def ChkR (W : World) (nodes : Int) (ps : List Prt) (C : Int × Int) (iv : Value) (wr : World) : Prop := ∃ i : Nat, i ≤ ps.length ∧ iv = .int .i64 i ∧ firstBad nodes (ps.drop i) i = C ∧ W.grownBy wr none

set_option maxHeartbeats 2000000 in
set_option maxRecDepth 10000 in
theorem check_at (nodes : Int) (pv : Value) (ps : List Prt) (g : Nat) (w : World) (hb : Base w) (hp : PartsAt w pv ps) (hg : g < w.heap.size) (hc : w.cell? ⟨g, 0, none⟩ = some (.int .i64 nodes)) :
    Calls Tryd.prog 22 #[.agg #[.int .i64 nodes, pv], .func (.func 23) #[] #[.pointer (some ⟨g, 0, none⟩)]] w fun e w' => CheckE w nodes ps e w' := by
  obtain ⟨ao, cap, rfl, h1, h2, h3⟩ := hp
  unfold maxLen at h2
  by_cases hm : nodes < 1 ∨ 8 < nodes ∨ 16 < ps.length
  · refine (check_many nodes ao ps.length cap _ w hm).mono ?_
    rintro e w' ⟨rfl, hw⟩
    refine ⟨?_, hw⟩
    unfold checkN
    rw [if_pos hm]
  · have hn1 : decide (nodes < 1) = false := by simp; omega
    have hn2 : decide (8 < nodes) = false := by simp; omega
    have hn3 : decide ((16 : Int) < (ps.length : Int)) = false := by simp; omega
    have hl16 : ps.length ≤ 16 := by omega
    have HP := hide h3
    have HBS := hide hb
    have HCG := hide hc
    obtain ⟨C, hC⟩ : ∃ C, firstBad nodes ps 0 = C := ⟨_, rfl⟩
    have HCK : Hid (checkN nodes ps = C) := by
      show _ = _
      unfold checkN
      rw [if_neg hm, hC]
    have HC0 := hide hC
    clear h3 hb hc hm hC
    go_enter Tryd.func22, Tryd.ntmps22
    go_wp2
    obtain ⟨W, hW⟩ : ∃ W, W = (w.alloc (Obj.cells #[.int .i64 nodes, .slice ao ps.length cap] 24)).alloc (Obj.cells #[.int .i64 0, .int .i64 0] 29) := ⟨_, rfl⟩
    have gW : Hid (w.grownBy W none) := by rw [hW]; exact gr_alloc (gr_alloc (gr_refl _ _) _) _
    have rW : Hid (∀ wr : World, W.grownBy wr none → wr.cell? ⟨w.heap.size + 1, 0, none⟩ = some (.int .i64 0) ∧ wr.cell? ⟨w.heap.size + 1, 1, none⟩ = some (.int .i64 0) ∧ (∀ i, wr.frozen? ⟨w.heap.size + 1, i, none⟩ = false)) := by
      intro wr hg
      rw [hW] at hg
      have := res_two hg
      simpa using this
    simp only [← hW]
    clear hW
    go_loopw [26] (fun iv wr => Hid (ChkR W nodes ps C iv wr)) (fun iv _ => ps.length - (intOf iv).toNat)
    case atStart => exact ⟨0, by omega, rfl, HC0.out, gr_refl _ _⟩
    case round =>
      obtain ⟨i, hi, rfl, hF, hgr⟩ := hrel.out
      obtain ⟨r0, r1, rf⟩ := rW.out wr hgr
      have rf0 := rf 0
      have rf1 := rf 1
      have HF := hide hF
      have HGR := hide hgr
      clear hF hgr rf hrel
      by_cases hlt : i < ps.length
      · obtain ⟨b, off, rfl, hb, c0, c1, c2, c3, c4, c5, c6⟩ := HP.out i hlt
        have hgg := (gr_none gW.out HGR.out)
        have q0 := hgg.cell c0 (by simp)
        have q1 := hgg.cell c1 (by simp)
        have q2 := hgg.cell c2 (by simp)
        have q3 := hgg.cell c3 (by simp)
        have q4 := hgg.cell c4 (by simp)
        have q5 := hgg.cell c5 (by simp)
        have hd : ps.drop i = ps[i] :: ps.drop (i + 1) := List.drop_eq_getElem_cons hlt
        have HD := hide hd
        have HGG := hide hgg
        generalize ps[i] = p at q0 q1 q2 q3 q4 q5 c6 HD
        clear c0 c1 c2 c3 c4 c5 hd hgg
        go_wp2_with fail
        refine (told_at p nodes g _ (HBS.out.keep (gr_alloc HGG.out _)) c6 (by have := HGG.out.size; simp; omega) ((gr_alloc HGG.out _).cell HCG.out (by simp))).mono ?_
        rintro e w1 ⟨rfl, g1⟩
        have G1 := hide (gr_none (gr_alloc HGR.out _) g1)
        obtain ⟨t0, t1, tf⟩ := rW.out w1 G1.out
        have tf0 := tf 0
        have tf1 := tf 1
        clear tf g1 HP
        by_cases hz : wrongP p nodes = 0
        · rw [hz]
          have HZ := hide hz
          clear hz
          go_wp2
          go_roundw
          case rel =>
            refine ⟨i + 1, by omega, by go_num, ?_, G1.out⟩
            have := HF.out
            rw [HD.out, firstBad, if_pos HZ.out] at this
            exact this
          case measure => simp [intOf]; omega
        · obtain ⟨r, hr⟩ : ∃ r, r = wrongP p nodes := ⟨_, rfl⟩
          rw [← hr]
          rw [← hr] at hz
          have hz' := ne_beq hz
          have HR := hide hr
          have HZ := hide hz
          clear hz hr
          go_wp2
          refine bodyPost_ret (v := .agg #[.int .i64 r, .int .i64 (i : Nat)]) (by simp [results, Tryd.results22, go_sem, t0, t1]) rfl ?_
          have hf := HF.out
          rw [HD.out, firstBad, if_neg (by rw [← HR.out]; exact HZ.out), ← HR.out] at hf
          refine ⟨?_, ?_⟩
          · rw [HCK.out, ← hf]
          · exact gr_set (gr_set (gr_none gW.out G1.out) _ _ (by simp)) _ _ (by simp)
      · have hdn : ps.drop i = [] := List.drop_of_length_le (by omega)
        have HDN := hide hdn
        clear hdn HP
        go_wp2
        refine bodyPost_ret (v := .agg #[.int .i64 0, .int .i64 0]) (by simp [results, Tryd.results22, go_sem, r0, r1]) rfl ?_
        have hf := HF.out
        rw [HDN.out, firstBad] at hf
        refine ⟨?_, ?_⟩
        · rw [HCK.out, ← hf]
        · exact gr_set (gr_set (gr_none gW.out HGR.out) _ _ (by simp)) _ _ (by simp)

set_option maxHeartbeats 1000000 in
set_option maxRecDepth 10000 in
/-- Check: what is wrong with a net. -/
theorem Check_at (nodes : Int) (pv : Value) (ps : List Prt) (w : World) (hb : Base w) (hp : PartsAt w pv ps) :
    Calls Tryd.prog 14 #[.agg #[.int .i64 nodes, pv]] w fun e w' => CheckE w nodes ps e w' := by
  have HB := hide hb
  have HP := hide hp
  obtain ⟨ao, cap, rfl, h1, h2, h3⟩ := hp
  clear h3 hb h2
  go_enter Tryd.func14, Tryd.ntmps14
  go_wp2_with fail
  have gW : w.grownBy ((w.alloc (Obj.cells #[.int .i64 nodes, .slice ao ps.length cap] 24)).alloc (Obj.cells #[.int .i64 0, .int .i64 0] 29)) none := gr_alloc (gr_alloc (gr_refl _ _) _) _
  have GW := hide gW
  clear gW
  refine (check_at nodes _ ps w.heap.size _ (HB.out.keep GW.out) (HP.out.keep GW.out) (by simp; omega) (by go_simp)).mono ?_
  intro e w1 hE
  obtain ⟨rfl, g1⟩ := hE
  have HG := hide g1
  have hrr : w1.cell? ⟨w.heap.size + 1, 0, none⟩ = some (.int .i64 0) ∧ w1.cell? ⟨w.heap.size + 1, 1, none⟩ = some (.int .i64 0) ∧ (∀ i, w1.frozen? ⟨w.heap.size + 1, i, none⟩ = false) := by
    have := res_two g1
    simpa using this
  obtain ⟨r0, r1, rf⟩ := hrr
  have rf0 := rf 0
  have rf1 := rf 1
  obtain ⟨C, hC⟩ : ∃ C, C = checkN nodes ps := ⟨_, rfl⟩
  rw [← hC]
  obtain ⟨C1, C2⟩ := C
  have HC := hide hC
  clear rf g1 hC
  go_wp2
  refine bodyPost_ret (v := .agg #[.int .i64 C1, .int .i64 C2]) (by simp [results, Tryd.results14, go_sem, r0, r1]) rfl ?_
  refine ⟨?_, ?_⟩
  · rw [← HC.out]
  · exact gr_set (gr_set (gr_none GW.out HG.out) _ _ (by simp)) _ _ (by simp)
end Go.Proofs.YtfhamfgcjdhmdaaDoor
