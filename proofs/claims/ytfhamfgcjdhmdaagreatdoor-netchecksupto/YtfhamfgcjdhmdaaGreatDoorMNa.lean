/- net: Check. -/
import Derived.Test.YtfhamfgcjdhmdaaGreatDoorNWrong
import Derived.WalkKit
import Derived.RegionTactic
import Derived.BigRegion
namespace Go.Proofs.YtfhamfgcjdhmdaaGreatDoor
open Go.RowKit
set_option linter.unusedVariables false

/-- What is wrong with a part. -/
def wrongP (p : Prt) (nodes : Int) : Int := if p.kind < 1 ∨ 9 ≤ p.kind then 3 else wrongK p.kind.toNat p.a p.b p.c p.d p.v nodes

/-- What the program's variables hold. -/
def Base (w : World) : Prop := KindsAt w ∧ (∃ m : Int, w.cell? ⟨5, 0, none⟩ = some (.int .i64 m)) ∧ 5 < w.heap.size

theorem Base.keep {w w' : World} (h : Base w) (hg : w.grownBy w' none) : Base w' := by
  obtain ⟨h1, ⟨m, h2⟩, h3⟩ := h
  exact ⟨h1.keep hg, ⟨m, hg.cell h2 (by simp)⟩, Nat.lt_of_lt_of_le h3 hg.size⟩

set_option maxHeartbeats 1000000 in
theorem wrong_kind (z : Int) (a b c d : Int) (v : ByteArray) (nodes : Int) (w : World) (h : z < 1 ∨ 9 ≤ z) :
    Calls Tryz.prog 82 #[.agg #[.int .i64 z, .int .i64 a, .int .i64 b, .int .i64 c, .int .i64 d, .string v], .int .i64 nodes] w fun e w' => e = .returned (.int .i64 3) ∧ w.grownBy w' none := by
  by_cases h1 : z < 1
  · clear h
    go_enter Tryz.func82, Tryz.ntmps82
    go_wp2
    go_ret
    exact ⟨rfl, gr_alloc (gr_alloc (gr_refl _ _) _) _⟩
  · have h2 : 9 ≤ z := by omega
    clear h
    go_enter Tryz.func82, Tryz.ntmps82
    go_wp2
    go_ret
    exact ⟨rfl, gr_alloc (gr_alloc (gr_refl _ _) _) _⟩

theorem calls_ret {P : Program} {f : Nat} {args : Array Value} {w : World} {x y : Int} {R : World → Prop} (h : Calls P f args w fun e w' => e = .returned (.int .i64 x) ∧ R w') (e : x = y) : Calls P f args w fun e w' => e = .returned (.int .i64 y) ∧ R w' := by
  rw [← e]; exact h

theorem wrong_at (p : Prt) (nodes : Int) (w : World) (hb : Base w) (hz : p.v.size ≤ 600000000) :
    Calls Tryz.prog 82 #[p.val, .int .i64 nodes] w fun e w' => e = .returned (.int .i64 (wrongP p nodes)) ∧ w.grownBy w' none := by
  obtain ⟨kind, a, b, c, d, v⟩ := p
  unfold Prt.val wrongP
  by_cases h : kind < 1 ∨ 9 ≤ kind
  · simp only
    rw [if_pos h]
    exact wrong_kind kind a b c d v nodes w h
  · simp only
    rw [if_neg h]
    obtain ⟨k, rfl⟩ : ∃ k : Nat, kind = k := ⟨kind.toNat, by omega⟩
    rw [Int.toNat_natCast]
    have h1 : 1 ≤ k := by omega
    have h2 : k < 9 := by omega
    obtain ⟨hk, ⟨m, hml⟩, hm1⟩ := hb
    by_cases hn : (!(isN a nodes) || !(isN b nodes) || (kLed k && !(isN c nodes && isN d nodes))) = true
    · refine calls_ret (wrong_nodes k a b c d v nodes w h1 h2 hk hn) ?_
      unfold wrongK
      rw [if_pos hn]
    · have hA : isN a nodes = true := by
        cases h : isN a nodes with
        | true => rfl
        | false => rw [h] at hn; simp at hn
      have hB : isN b nodes = true := by
        cases h : isN b nodes with
        | true => rfl
        | false => rw [h] at hn; simp at hn
      have hcd : (c != 0 || d != 0) = !(decide (c = 0 ∧ d = 0)) := by
        by_cases hc : c = 0 <;> by_cases hd : d = 0 <;> simp [hc, hd]
      have hK : k = 1 ∨ k = 2 ∨ k = 3 ∨ k = 4 ∨ k = 5 ∨ k = 6 ∨ k = 7 ∨ k = 8 := by omega
      by_cases hl : kLed k = true
      · rw [hA, hB, hl] at hn
        have hC : isN c nodes = true := by
          cases h : isN c nodes with
          | true => rfl
          | false => rw [h] at hn; simp at hn
        have hD : isN d nodes = true := by
          cases h : isN d nodes with
          | true => rfl
          | false => rw [h] at hn; simp at hn
        have hv : kValued k = true := by rcases hK with rfl | rfl | rfl | rfl | rfl | rfl | rfl | rfl <;> first | rfl | (simp [kLed] at hl)
        have ha : kAbove k = false := by rcases hK with rfl | rfl | rfl | rfl | rfl | rfl | rfl | rfl <;> first | rfl | (simp [kLed] at hl)
        refine calls_ret (wrong_led k a b c d v nodes w h1 h2 hk hA hB hC hD hl hv ha) ?_
        unfold wrongK
        simp [hA, hB, hC, hD, hl, hv, ha]
      · have hl : kLed k = false := by simpa using hl
        by_cases hv : kValued k = true
        · by_cases ha : kAbove k = true
          · refine calls_ret (wrong_above k a b c d v nodes w h1 h2 hk hA hB m hml hm1 hz hl hv ha) ?_
            unfold wrongK
            simp only [hA, hB, hl, hv, ha, hcd]
            by_cases h3 : signV v ≤ 0 <;> by_cases h4 : c = 0 ∧ d = 0 <;> simp [h3, h4]
          · have ha : kAbove k = false := by simpa using ha
            refine calls_ret (wrong_plain k a b c d v nodes w h1 h2 hk hA hB hl hv ha) ?_
            unfold wrongK
            simp only [hA, hB, hl, hv, ha, hcd]
            by_cases h4 : c = 0 ∧ d = 0 <;> simp [h4]
        · have hv : kValued k = false := by simpa using hv
          have ha : kAbove k = false := by rcases hK with rfl | rfl | rfl | rfl | rfl | rfl | rfl | rfl <;> first | rfl | (simp [kValued] at hv)
          refine calls_ret (wrong_diode k a b c d v nodes w h1 h2 hk hA hB hl hv ha) ?_
          unfold wrongK
          simp only [hA, hB, hl, hv, ha, hcd]
          by_cases h4 : c = 0 ∧ d = 0
          · by_cases h5 : v.data.toList = []
            · simp [h4, h5]
            · have h6 : v.data.toList.isEmpty = false := by
                cases hq : v.data.toList with
                | nil => exact absurd hq h5
                | cons x y => rfl
              simp [h4, h5, h6]
          · rw [if_neg (fun e => h4 ⟨e.1, e.2.1⟩)]
            simp [h4]

set_option maxHeartbeats 400000 in
theorem told_at (p : Prt) (nodes : Int) (g : Nat) (w : World) (hb : Base w) (hz : p.v.size ≤ 600000000) (hg : g < w.heap.size) (hc : w.cell? ⟨g, 0, none⟩ = some (.int .i64 nodes)) :
    Calls Tryz.prog 81 #[p.val, .pointer (some ⟨g, 0, none⟩)] w fun e w' => e = .returned (.int .i64 (wrongP p nodes)) ∧ w.grownBy w' none := by
  have HB := hide (hb.keep (World.grownBy_alloc w (Obj.cells #[.int .i64 p.kind, .int .i64 p.a, .int .i64 p.b, .int .i64 p.c, .int .i64 p.d, .string p.v] 62) none))
  have hW := wrong_at p nodes _ HB.out hz
  have HW := hide hW
  unfold Prt.val at HW
  clear hb hW
  unfold Prt.val
  generalize wrongP p nodes = r at HW ⊢
  go_enter Tryz.func81, Tryz.ntmps81
  go_wp2_with fail
  refine HW.out.mono ?_
  rintro e w1 ⟨rfl, g1⟩
  have G1 := hide g1
  clear g1
  go_wp2
  go_ret
  exact ⟨rfl, gr_none (gr_alloc (gr_refl _ _) _) G1.out⟩
end Go.Proofs.YtfhamfgcjdhmdaaGreatDoor

namespace Go.Proofs.YtfhamfgcjdhmdaaGreatDoor
open Go.RowKit
set_option linter.unusedVariables false

/-- The first part that is wrong. -/
def firstBad (nodes : Int) : List Prt → Nat → Int × Int
  | [], _ => (0, 0)
  | p :: r, i => if wrongP p nodes = 0 then firstBad nodes r (i + 1) else (wrongP p nodes, (i : Int))

/-- Check's answer. -/
def checkN (nodes : Int) (ps : List Prt) : Int × Int := if nodes < 1 ∨ 8 < nodes ∨ 16 < ps.length then (2, 0) else firstBad nodes ps 0

/-- v holds the parts ps. -/
def PartsAt (w : World) (v : Value) (ps : List Prt) : Prop := ∃ ao cap, v = .slice ao ps.length cap ∧ ps.length ≤ cap ∧ cap ≤ maxLen ∧ ∀ i (h : i < ps.length), ∃ b off, ao = some ⟨b, off, none⟩ ∧ b < w.heap.size ∧
  w.cell? ⟨b, off + i * 6, none⟩ = some (.int .i64 ps[i].kind) ∧ w.cell? ⟨b, off + i * 6 + 1, none⟩ = some (.int .i64 ps[i].a) ∧ w.cell? ⟨b, off + i * 6 + 2, none⟩ = some (.int .i64 ps[i].b) ∧ w.cell? ⟨b, off + i * 6 + 3, none⟩ = some (.int .i64 ps[i].c) ∧ w.cell? ⟨b, off + i * 6 + 4, none⟩ = some (.int .i64 ps[i].d) ∧ w.cell? ⟨b, off + i * 6 + 5, none⟩ = some (.string ps[i].v) ∧ ps[i].v.size ≤ 600000000

theorem PartsAt.keep {w w' : World} {v : Value} {ps : List Prt} (h : PartsAt w v ps) (hg : w.grownBy w' none) : PartsAt w' v ps := by
  obtain ⟨ao, cap, e, h1, h2, h3⟩ := h
  refine ⟨ao, cap, e, h1, h2, fun i hi => ?_⟩
  obtain ⟨b, off, e, hb, c0, c1, c2, c3, c4, c5, c6⟩ := h3 i hi
  exact ⟨b, off, e, Nat.lt_of_lt_of_le hb hg.size, hg.cell c0 (by simp), hg.cell c1 (by simp), hg.cell c2 (by simp), hg.cell c3 (by simp), hg.cell c4 (by simp), hg.cell c5 (by simp), c6⟩

/-- What check answers. -/
def CheckE (w : World) (nodes : Int) (ps : List Prt) (e : Ending) (w' : World) : Prop := e = .returned (.agg #[.int .i64 (checkN nodes ps).1, .int .i64 (checkN nodes ps).2]) ∧ w.grownBy w' none

set_option maxHeartbeats 1000000 in
set_option maxRecDepth 10000 in
theorem check_many (nodes : Int) (o : Option Addr) (l cap : Nat) (f : Value) (w : World) (h : nodes < 1 ∨ 8 < nodes ∨ 16 < l) :
    Calls Tryz.prog 80 #[.agg #[.int .i64 nodes, .slice o l cap], f] w fun e w' => e = .returned (.agg #[.int .i64 2, .int .i64 0]) ∧ w.grownBy w' none := by
  by_cases h1 : nodes < 1
  · clear h
    go_enter Tryz.func80, Tryz.ntmps80
    go_wp2
    exact bodyPost_ret (v := .agg #[.int .i64 2, .int .i64 0]) (by simp [results, Tryz.results80, go_sem]) rfl ⟨rfl, gr_alloc (gr_alloc (gr_refl _ _) _) _⟩
  · by_cases h2 : 8 < nodes
    · clear h
      go_enter Tryz.func80, Tryz.ntmps80
      go_wp2
      exact bodyPost_ret (v := .agg #[.int .i64 2, .int .i64 0]) (by simp [results, Tryz.results80, go_sem]) rfl ⟨rfl, gr_alloc (gr_alloc (gr_refl _ _) _) _⟩
    · have h3 : 16 < l := by omega
      have h1' : decide (nodes < 1) = false := by simpa using h1
      have h2' : decide (8 < nodes) = false := by simpa using h2
      clear h
      go_enter Tryz.func80, Tryz.ntmps80
      go_wp2
      exact bodyPost_ret (v := .agg #[.int .i64 2, .int .i64 0]) (by simp [results, Tryz.results80, go_sem]) rfl ⟨rfl, gr_alloc (gr_alloc (gr_refl _ _) _) _⟩

/-- The cells of a result of two, in a world that has grown since. -/
theorem res_two {w W : World} {t : TypeId} {u v : Value} (h : (w.alloc (Obj.cells #[u, v] t)).grownBy W none) :
    W.cell? ⟨w.heap.size, 0, none⟩ = some u ∧ W.cell? ⟨w.heap.size, 1, none⟩ = some v ∧ (∀ i, W.frozen? ⟨w.heap.size, i, none⟩ = false) := by
  have e : W.heap[w.heap.size]? = some (Obj.cells #[u, v] t (0, 0)) := by
    rw [h.block w.heap.size (by simp) (by simp)]
    exact heap_alloc_new w _
  refine ⟨?_, ?_, fun i => ?_⟩ <;> simp [World.cell?, World.frozen?, e]

def ChkR (W : World) (nodes : Int) (ps : List Prt) (C : Int × Int) (iv : Value) (wr : World) : Prop := ∃ i : Nat, i ≤ ps.length ∧ iv = .int .i64 i ∧ firstBad nodes (ps.drop i) i = C ∧ W.grownBy wr none

set_option maxHeartbeats 2000000 in
set_option maxRecDepth 10000 in
theorem check_at (nodes : Int) (pv : Value) (ps : List Prt) (g : Nat) (w : World) (hb : Base w) (hp : PartsAt w pv ps) (hg : g < w.heap.size) (hc : w.cell? ⟨g, 0, none⟩ = some (.int .i64 nodes)) :
    Calls Tryz.prog 80 #[.agg #[.int .i64 nodes, pv], .func (.func 81) #[] #[.pointer (some ⟨g, 0, none⟩)]] w fun e w' => CheckE w nodes ps e w' := by
  obtain ⟨ao, cap, rfl, h1, h2, h3⟩ := hp
  unfold maxLen at h2
  by_cases hm : nodes < 1 ∨ 8 < nodes ∨ 16 < ps.length
  · refine (check_many nodes ao ps.length cap _ w hm).mono ?_
    rintro e w' ⟨rfl, hw⟩
    refine ⟨?_, hw⟩
    unfold checkN
    rw [if_pos hm]
  · have hn1 : decide (nodes < 1) = false := by simp; omega
    have hn2 : decide (8 < nodes) = false := by simp; omega
    have hn3 : decide ((16 : Int) < (ps.length : Int)) = false := by simp; omega
    have hl16 : ps.length ≤ 16 := by omega
    have HP := hide h3
    have HBS := hide hb
    have HCG := hide hc
    obtain ⟨C, hC⟩ : ∃ C, firstBad nodes ps 0 = C := ⟨_, rfl⟩
    have HCK : Hid (checkN nodes ps = C) := by
      show _ = _
      unfold checkN
      rw [if_neg hm, hC]
    have HC0 := hide hC
    clear h3 hb hc hm hC
    go_enter Tryz.func80, Tryz.ntmps80
    go_wp2
    obtain ⟨W, hW⟩ : ∃ W, W = (w.alloc (Obj.cells #[.int .i64 nodes, .slice ao ps.length cap] 38)).alloc (Obj.cells #[.int .i64 0, .int .i64 0] 26) := ⟨_, rfl⟩
    have gW : Hid (w.grownBy W none) := by rw [hW]; exact gr_alloc (gr_alloc (gr_refl _ _) _) _
    have rW : Hid (∀ wr : World, W.grownBy wr none → wr.cell? ⟨w.heap.size + 1, 0, none⟩ = some (.int .i64 0) ∧ wr.cell? ⟨w.heap.size + 1, 1, none⟩ = some (.int .i64 0) ∧ (∀ i, wr.frozen? ⟨w.heap.size + 1, i, none⟩ = false)) := by
      intro wr hg
      rw [hW] at hg
      have := res_two hg
      simpa using this
    simp only [← hW]
    clear hW
    go_loopw [26] (fun iv wr => Hid (ChkR W nodes ps C iv wr)) (fun iv _ => ps.length - (intOf iv).toNat)
    case atStart => exact ⟨0, by omega, rfl, HC0.out, gr_refl _ _⟩
    case round =>
      obtain ⟨i, hi, rfl, hF, hgr⟩ := hrel.out
      obtain ⟨r0, r1, rf⟩ := rW.out wr hgr
      have rf0 := rf 0
      have rf1 := rf 1
      have HF := hide hF
      have HGR := hide hgr
      clear hF hgr rf hrel
      by_cases hlt : i < ps.length
      · obtain ⟨b, off, rfl, hb, c0, c1, c2, c3, c4, c5, c6⟩ := HP.out i hlt
        have hgg := (gr_none gW.out HGR.out)
        have q0 := hgg.cell c0 (by simp)
        have q1 := hgg.cell c1 (by simp)
        have q2 := hgg.cell c2 (by simp)
        have q3 := hgg.cell c3 (by simp)
        have q4 := hgg.cell c4 (by simp)
        have q5 := hgg.cell c5 (by simp)
        have hd : ps.drop i = ps[i] :: ps.drop (i + 1) := List.drop_eq_getElem_cons hlt
        have HD := hide hd
        have HGG := hide hgg
        generalize ps[i] = p at q0 q1 q2 q3 q4 q5 c6 HD
        clear c0 c1 c2 c3 c4 c5 hd hgg
        go_wp2_with fail
        refine (told_at p nodes g _ (HBS.out.keep (gr_alloc HGG.out _)) c6 (by have := HGG.out.size; simp; omega) ((gr_alloc HGG.out _).cell HCG.out (by simp))).mono ?_
        rintro e w1 ⟨rfl, g1⟩
        have G1 := hide (gr_none (gr_alloc HGR.out _) g1)
        obtain ⟨t0, t1, tf⟩ := rW.out w1 G1.out
        have tf0 := tf 0
        have tf1 := tf 1
        clear tf g1 HP
        by_cases hz : wrongP p nodes = 0
        · rw [hz]
          have HZ := hide hz
          clear hz
          go_wp2
          go_roundw
          case rel =>
            refine ⟨i + 1, by omega, by go_num, ?_, G1.out⟩
            have := HF.out
            rw [HD.out, firstBad, if_pos HZ.out] at this
            exact this
          case measure => simp [intOf]; omega
        · obtain ⟨r, hr⟩ : ∃ r, r = wrongP p nodes := ⟨_, rfl⟩
          rw [← hr]
          rw [← hr] at hz
          have hz' := ne_beq hz
          have HR := hide hr
          have HZ := hide hz
          clear hz hr
          go_wp2
          refine bodyPost_ret (v := .agg #[.int .i64 r, .int .i64 (i : Nat)]) (by simp [results, Tryz.results80, go_sem, t0, t1]) rfl ?_
          have hf := HF.out
          rw [HD.out, firstBad, if_neg (by rw [← HR.out]; exact HZ.out), ← HR.out] at hf
          refine ⟨?_, ?_⟩
          · rw [HCK.out, ← hf]
          · exact gr_set (gr_set (gr_none gW.out G1.out) _ _ (by simp)) _ _ (by simp)
      · have hdn : ps.drop i = [] := List.drop_of_length_le (by omega)
        have HDN := hide hdn
        clear hdn HP
        go_wp2
        refine bodyPost_ret (v := .agg #[.int .i64 0, .int .i64 0]) (by simp [results, Tryz.results80, go_sem, r0, r1]) rfl ?_
        have hf := HF.out
        rw [HDN.out, firstBad] at hf
        refine ⟨?_, ?_⟩
        · rw [HCK.out, ← hf]
        · exact gr_set (gr_set (gr_none gW.out HGR.out) _ _ (by simp)) _ _ (by simp)

set_option maxHeartbeats 1000000 in
set_option maxRecDepth 10000 in
/-- Check: what is wrong with a net. -/
theorem Check_at (nodes : Int) (pv : Value) (ps : List Prt) (w : World) (hb : Base w) (hp : PartsAt w pv ps) :
    Calls Tryz.prog 17 #[.agg #[.int .i64 nodes, pv]] w fun e w' => CheckE w nodes ps e w' := by
  have HB := hide hb
  have HP := hide hp
  obtain ⟨ao, cap, rfl, h1, h2, h3⟩ := hp
  clear h3 hb h2
  go_enter Tryz.func17, Tryz.ntmps17
  go_wp2_with fail
  have gW : w.grownBy ((w.alloc (Obj.cells #[.int .i64 nodes, .slice ao ps.length cap] 38)).alloc (Obj.cells #[.int .i64 0, .int .i64 0] 26)) none := gr_alloc (gr_alloc (gr_refl _ _) _) _
  have GW := hide gW
  clear gW
  refine (check_at nodes _ ps w.heap.size _ (HB.out.keep GW.out) (HP.out.keep GW.out) (by simp; omega) (by go_simp)).mono ?_
  intro e w1 hE
  obtain ⟨rfl, g1⟩ := hE
  have HG := hide g1
  have hrr : w1.cell? ⟨w.heap.size + 1, 0, none⟩ = some (.int .i64 0) ∧ w1.cell? ⟨w.heap.size + 1, 1, none⟩ = some (.int .i64 0) ∧ (∀ i, w1.frozen? ⟨w.heap.size + 1, i, none⟩ = false) := by
    have := res_two g1
    simpa using this
  obtain ⟨r0, r1, rf⟩ := hrr
  have rf0 := rf 0
  have rf1 := rf 1
  obtain ⟨C, hC⟩ : ∃ C, C = checkN nodes ps := ⟨_, rfl⟩
  rw [← hC]
  obtain ⟨C1, C2⟩ := C
  have HC := hide hC
  clear rf g1 hC
  go_wp2
  refine bodyPost_ret (v := .agg #[.int .i64 C1, .int .i64 C2]) (by simp [results, Tryz.results17, go_sem, r0, r1]) rfl ?_
  refine ⟨?_, ?_⟩
  · rw [← HC.out]
  · exact gr_set (gr_set (gr_none GW.out HG.out) _ _ (by simp)) _ _ (by simp)
end Go.Proofs.YtfhamfgcjdhmdaaGreatDoor

namespace Go.Proofs.YtfhamfgcjdhmdaaGreatDoor

abbrev Pr := Nat × Nat

/-- Of each node the least one that is joined to it; a and b are joined now. -/
def joinF (l : Nat → Nat) (p : Pr) : Nat → Nat := fun x => if l x = max (l p.1) (l p.2) then min (l p.1) (l p.2) else l x

def labF (E : List Pr) : Nat → Nat := E.foldl joinF id

theorem labF_snoc (E : List Pr) (p : Pr) : labF (E ++ [p]) = joinF (labF E) p := by simp [labF]

theorem joinF_same (l : Nat → Nat) (p : Pr) (h : l p.1 = l p.2) : joinF l p = l := by
  funext x
  unfold joinF
  split
  · rename_i h1
    rw [h1]
    omega
  · rfl

theorem joinF_eq (l : Nat → Nat) (p : Pr) (a b : Nat) : joinF l p a = joinF l p b ↔ l a = l b ∨ (l a = l p.1 ∧ l b = l p.2) ∨ (l a = l p.2 ∧ l b = l p.1) := by
  unfold joinF
  generalize l a = x, l b = y, l p.1 = u, l p.2 = v
  constructor
  · intro h
    split at h <;> split at h <;> omega
  · intro h
    split <;> split <;> omega

/-- A sum over pairs, each with its factor. -/
def comb : List Int → List Pr → (Nat → Int) → Int
  | c :: cs, p :: ps, s => c * (s p.1 - s p.2) + comb cs ps s
  | _, _, _ => 0

theorem comb_zero (E : List Pr) (s : Nat → Int) : comb (List.replicate E.length 0) E s = 0 := by
  induction E with
  | nil => rfl
  | cons p r ih => simp [List.replicate_succ, comb, ih]

theorem comb_append (c d : List Int) (E F : List Pr) (s : Nat → Int) (h : c.length = E.length) : comb (c ++ d) (E ++ F) s = comb c E s + comb d F s := by
  induction c generalizing E with
  | nil =>
    have : E = [] := List.eq_nil_of_length_eq_zero h.symm
    subst this
    simp [comb]
  | cons x r ih =>
    cases E with
    | nil => simp at h
    | cons p q =>
      simp only [List.cons_append, comb, ih q (by simpa using h)]
      omega

theorem comb_add (c d : List Int) (E : List Pr) (s : Nat → Int) (h : c.length = E.length) (k : d.length = E.length) : comb (List.zipWith (· + ·) c d) E s = comb c E s + comb d E s := by
  induction E generalizing c d with
  | nil =>
    have : c = [] := List.eq_nil_of_length_eq_zero h
    subst this
    simp [comb]
  | cons p q ih =>
    match c, d with
    | [], _ => simp at h
    | _, [] => simp at k
    | x :: c, y :: d =>
      simp only [List.zipWith_cons_cons, comb, ih c d (by simpa using h) (by simpa using k), Int.add_mul]
      omega

theorem comb_neg (c : List Int) (E : List Pr) (s : Nat → Int) : comb (c.map (- ·)) E s = - comb c E s := by
  induction E generalizing c with
  | nil => cases c <;> simp [comb]
  | cons p q ih =>
    match c with
    | [] => simp [comb]
    | x :: c =>
      simp only [List.map_cons, comb, ih c, Int.neg_mul]
      omega

/-- What is joined is a sum of what joined it. -/
theorem span (E : List Pr) : ∀ a b, labF E a = labF E b → ∃ c : List Int, c.length = E.length ∧ ∀ s : Nat → Int, s a - s b = comb c E s := by
  have key : ∀ (n : Nat) (E : List Pr), E.length = n → ∀ a b, labF E a = labF E b → ∃ c : List Int, c.length = E.length ∧ ∀ s : Nat → Int, s a - s b = comb c E s := by
    intro n
    induction n with
    | zero =>
      intro E h a b hl
      have : E = [] := List.eq_nil_of_length_eq_zero h
      subst this
      have : a = b := hl
      subst this
      exact ⟨[], rfl, fun s => by simp [comb]⟩
    | succ n ih =>
      intro E h a b hl
      have hne : E ≠ [] := by intro e; subst e; simp at h
      obtain ⟨F, p, rfl⟩ : ∃ F p, E = F ++ [p] := ⟨E.dropLast, E.getLast hne, (List.dropLast_concat_getLast hne).symm⟩
      have hF : F.length = n := by simpa using h
      rw [labF_snoc, joinF_eq] at hl
      rcases hl with hl | ⟨h1, h2⟩ | ⟨h1, h2⟩
      · obtain ⟨c, hc, hs⟩ := ih F hF a b hl
        exact ⟨c ++ [0], by simp [hc], fun s => by rw [comb_append _ _ _ _ _ hc, ← hs s]; simp [comb]⟩
      · obtain ⟨c, hc, hs⟩ := ih F hF _ _ h1
        obtain ⟨d, hd, ht⟩ := ih F hF _ _ h2
        refine ⟨List.zipWith (· + ·) c (d.map (- ·)) ++ [1], by simp [hc, hd], fun s => ?_⟩
        rw [comb_append _ _ _ _ _ (by simp [hc, hd]), comb_add _ _ _ _ hc (by simp [hd]), comb_neg, ← hs s, ← ht s]
        simp only [comb]
        omega
      · obtain ⟨c, hc, hs⟩ := ih F hF _ _ h1
        obtain ⟨d, hd, ht⟩ := ih F hF _ _ h2
        refine ⟨List.zipWith (· + ·) c (d.map (- ·)) ++ [-1], by simp [hc, hd], fun s => ?_⟩
        rw [comb_append _ _ _ _ _ (by simp [hc, hd]), comb_add _ _ _ _ hc (by simp [hd]), comb_neg, ← hs s, ← ht s]
        simp only [comb]
        omega
  exact fun a b => key E.length E rfl a b

theorem lab_mono (E F : List Pr) (a b : Nat) (h : labF E a = labF E b) : labF (E ++ F) a = labF (E ++ F) b := by
  have key : ∀ (F : List Pr) (l : Nat → Nat), l a = l b → F.foldl joinF l a = F.foldl joinF l b := by
    intro F
    induction F with
    | nil => intro l h; exact h
    | cons p q ih => intro l h; exact ih _ ((joinF_eq l p a b).2 (.inl h))
  unfold labF at h ⊢
  rw [List.foldl_append]
  exact key F _ h

/-- What joins is joined. -/
theorem lab_mem (E : List Pr) (p : Pr) (h : p ∈ E) : labF E p.1 = labF E p.2 := by
  obtain ⟨X, Y, rfl⟩ := List.append_of_mem h
  have : X ++ p :: Y = (X ++ [p]) ++ Y := by simp
  rw [this]
  apply lab_mono
  rw [labF_snoc, joinF_eq]
  exact .inr (.inl ⟨rfl, rfl⟩)

/-- Each of them joins what those ahead of it don't. -/
def Forest (E : List Pr) : Prop := ∀ X p Y, E = X ++ p :: Y → labF X p.1 ≠ labF X p.2

theorem Forest.front {E : List Pr} {p : Pr} (h : Forest (E ++ [p])) : Forest E := fun X q Y e => h X q (Y ++ [p]) (by rw [e]; simp)
theorem Forest.last {E : List Pr} {p : Pr} (h : Forest (E ++ [p])) : labF E p.1 ≠ labF E p.2 := h E p [] rfl
theorem Forest.nil : Forest [] := fun X p Y e => by simp at e
theorem Forest.snoc {E : List Pr} {p : Pr} (h : Forest E) (hp : labF E p.1 ≠ labF E p.2) : Forest (E ++ [p]) := fun X q Y e => by
  rcases List.eq_nil_or_concat Y with rfl | ⟨Z, z, rfl⟩
  · obtain ⟨rfl, e2⟩ := List.append_inj' e (by simp)
    simp only [List.cons.injEq, and_true] at e2
    subst e2
    exact hp
  · have e1 : E ++ [p] = (X ++ q :: Z) ++ [z] := by rw [e]; simp
    obtain ⟨e3, _⟩ := List.append_inj' e1 (by simp)
    exact h X q Z e3

/-- 1 of the nodes that are joined to a. -/
def side (E : List Pr) (a x : Nat) : Int := if labF E x = labF E a then 1 else 0

theorem comb_side (c : List Int) (E F : List Pr) (a : Nat) (h : ∀ p ∈ F, p ∈ E) : comb c F (side E a) = 0 := by
  induction F generalizing c with
  | nil => cases c <;> rfl
  | cons p q ih =>
    match c with
    | [] => rfl
    | x :: c =>
      have e := lab_mem E p (h p (by simp))
      simp only [comb, ih c (fun r hr => h r (by simp [hr])), side, e]
      simp

/-- No sum of a forest's pairs is nothing, but the one of noughts. -/
theorem indep : ∀ (n : Nat) (E : List Pr) (d : List Int), E.length = n → d.length = E.length → Forest E → (∀ s, comb d E s = 0) → ∀ x ∈ d, x = 0 := by
  intro n
  induction n with
  | zero =>
    intro E d h hd _ _ x hx
    have : d = [] := List.eq_nil_of_length_eq_zero (by omega)
    subst this
    simp at hx
  | succ n ih =>
    intro E d h hd hf hs
    have hne : E ≠ [] := by intro e; subst e; simp at h
    have hnd : d ≠ [] := by intro e; subst e; simp at hd; omega
    obtain ⟨F, p, rfl⟩ : ∃ F p, E = F ++ [p] := ⟨E.dropLast, E.getLast hne, (List.dropLast_concat_getLast hne).symm⟩
    obtain ⟨c, y, rfl⟩ : ∃ c y, d = c ++ [y] := ⟨d.dropLast, d.getLast hnd, (List.dropLast_concat_getLast hnd).symm⟩
    have hc : c.length = F.length := by simpa using hd
    have hy : y = 0 := by
      have h1 := hs (side F p.1)
      rw [comb_append _ _ _ _ _ hc, comb_side c F F p.1 (fun _ h => h)] at h1
      have h2 := hf.last
      simp only [comb, side, if_true, if_neg (fun e : labF F p.2 = labF F p.1 => h2 e.symm)] at h1
      omega
    subst hy
    have h3 : ∀ s, comb c F s = 0 := by
      intro s
      have h1 := hs s
      rw [comb_append _ _ _ _ _ hc] at h1
      simp only [comb] at h1
      omega
    intro x hx
    rcases List.mem_append.1 hx with hx | hx
    · exact ih F c (by simpa using h) hc hf.front h3 x hx
    · simpa using hx

/-- Without one of a forest's pairs its ends are apart. -/
theorem apart_without {X Y : List Pr} {p : Pr} (hf : Forest (X ++ p :: Y)) : labF (X ++ Y) p.1 ≠ labF (X ++ Y) p.2 := by
  intro e
  obtain ⟨c, hc, hs⟩ := span (X ++ Y) _ _ e
  obtain ⟨c1, c2, rfl, h1, h2⟩ : ∃ c1 c2, c = c1 ++ c2 ∧ c1.length = X.length ∧ c2.length = Y.length :=
    ⟨c.take X.length, c.drop X.length, (List.take_append_drop _ _).symm, by rw [List.length_take]; simp at hc; omega, by rw [List.length_drop]; simp at hc; omega⟩
  have h3 : ∀ s, comb (c1 ++ (-1) :: c2) (X ++ p :: Y) s = 0 := by
    intro s
    have h4 := hs s
    rw [comb_append _ _ _ _ _ h1] at h4 ⊢
    simp only [comb]
    omega
  have h5 := indep _ _ _ rfl (by simp [h1, h2]) hf h3 (-1) (by simp)
  omega

/-- What a cut says of a pair. -/
def cutOf (X Y : List Pr) (p e : Pr) : Int := side (X ++ Y) p.1 e.1 - side (X ++ Y) p.1 e.2

theorem cut_self {X Y : List Pr} {p : Pr} (hf : Forest (X ++ p :: Y)) : side (X ++ Y) p.1 p.1 - side (X ++ Y) p.1 p.2 = 1 := by
  have := apart_without hf
  unfold side
  rw [if_pos rfl, if_neg (fun e => this e.symm)]
  rfl

/-- All cuts of a forest, of one pair: X is what lies ahead. -/
def cutsAt (X : List Pr) : List Pr → Pr → List Int
  | [], _ => []
  | p :: Y, e => cutOf X Y p e :: cutsAt (X ++ [p]) Y e

theorem cutsAt_length (X F : List Pr) (e : Pr) : (cutsAt X F e).length = F.length := by
  induction F generalizing X with
  | nil => rfl
  | cons p Y ih => simp [cutsAt, ih]

/-- The factors of what is joined are what the cuts say. -/
theorem comb_cuts (E : List Pr) (hf : Forest E) (e : Pr) (c : List Int) (hc : c.length = E.length) (hs : ∀ s, s e.1 - s e.2 = comb c E s) : c = cutsAt [] E e := by
  have key : ∀ (F X : List Pr) (c1 c2 : List Int), E = X ++ F → c = c1 ++ c2 → c1.length = X.length → c2.length = F.length → c2 = cutsAt X F e := by
    intro F
    induction F with
    | nil => intro X c1 c2 _ _ _ h; exact List.eq_nil_of_length_eq_zero h
    | cons p Y ih =>
      intro X c1 c2 h1 h2 h3 h4
      match c2 with
      | [] => simp at h4
      | x :: c2 =>
        have hx : x = cutOf X Y p e := by
          have h5 := hs (side (X ++ Y) p.1)
          rw [h1, h2, comb_append _ _ _ _ _ h3] at h5
          simp only [comb] at h5
          rw [comb_side c1 (X ++ Y) X p.1 (fun q hq => by simp [hq]), comb_side c2 (X ++ Y) Y p.1 (fun q hq => by simp [hq]), cut_self (by rw [← h1]; exact hf)] at h5
          unfold cutOf
          omega
        rw [hx, cutsAt, ih (X ++ [p]) (c1 ++ [x]) c2 (by rw [h1]; simp) (by rw [h2]; simp) (by simp [h3]) (by simpa using h4)]
  exact key E [] [] c rfl rfl rfl hc

/-- Each loop comes back, whatever is asked of the nodes. -/
theorem loop_back (E : List Pr) (hf : Forest E) (e : Pr) (he : labF E e.1 = labF E e.2) (s : Nat → Int) : s e.1 - s e.2 = comb (cutsAt [] E e) E s := by
  obtain ⟨c, hc, hs⟩ := span E e.1 e.2 he
  rw [← comb_cuts E hf e c hc hs]
  exact hs s

/-- The nodes that are the least ones of their islands. -/
def roots (n : Nat) (l : Nat → Nat) : Nat := (List.range n).countP (fun x => l x == x)

theorem lab_idem (E : List Pr) : ∀ x, labF E (labF E x) = labF E x := by
  have key : ∀ (F : List Pr) (l : Nat → Nat), (∀ x, l (l x) = l x) → ∀ x, F.foldl joinF l (F.foldl joinF l x) = F.foldl joinF l x := by
    intro F
    induction F with
    | nil => intro l h; exact h
    | cons p q ih =>
      intro l h
      refine ih _ fun x => ?_
      have h1 := h p.1
      have h2 := h p.2
      have h3 := h x
      unfold joinF
      by_cases hx : l x = max (l p.1) (l p.2)
      · rw [if_pos hx]
        rcases Nat.le_total (l p.1) (l p.2) with hle | hle
        · rw [Nat.min_eq_left hle, Nat.max_eq_right hle, h1]
          split <;> omega
        · rw [Nat.min_eq_right hle, Nat.max_eq_left hle, h2]
          split <;> omega
      · rw [if_neg hx, h3, if_neg hx]
  exact key E id (fun _ => rfl)

theorem lab_le (E : List Pr) : ∀ x, labF E x ≤ x := by
  have key : ∀ (F : List Pr) (l : Nat → Nat), (∀ x, l x ≤ x) → ∀ x, F.foldl joinF l x ≤ x := by
    intro F
    induction F with
    | nil => intro l h; exact h
    | cons p q ih =>
      intro l h
      refine ih _ fun x => ?_
      have := h x
      unfold joinF
      split <;> omega
  exact key E id (fun _ => Nat.le_refl _)

theorem countP_drop (n : Nat) (f g : Nat → Bool) (k : Nat) (hk : k < n) (h1 : f k = true) (h2 : g k = false) (h : ∀ x, x ≠ k → g x = f x) : (List.range n).countP g + 1 = (List.range n).countP f := by
  induction n with
  | zero => omega
  | succ n ih =>
    rw [List.range_succ, List.countP_append, List.countP_append]
    by_cases e : k = n
    · subst e
      have : (List.range k).countP g = (List.range k).countP f := by
        apply List.countP_congr
        intro x hx
        rw [h x (by have := List.mem_range.1 hx; omega)]
      simp [this, h1, h2]
    · have := ih (by omega)
      have e2 : g n = f n := h n (fun e3 => e e3.symm)
      simp only [List.countP_singleton, e2]
      omega

theorem roots_forest (n : Nat) : ∀ (k : Nat) (E : List Pr), E.length = k → Forest E → (∀ p ∈ E, p.1 < n ∧ p.2 < n) → roots n (labF E) + E.length = n := by
  intro k
  induction k with
  | zero =>
    intro E h _ _
    have : E = [] := List.eq_nil_of_length_eq_zero h
    subst this
    have : (List.range n).countP (fun x => labF [] x == x) = (List.range n).length := by
      rw [List.countP_eq_length]
      intro x _
      simp [labF]
    unfold roots
    rw [this]
    simp
  | succ k ih =>
    intro E h hf hn
    have hne : E ≠ [] := by intro e; subst e; simp at h
    obtain ⟨F, p, rfl⟩ : ∃ F p, E = F ++ [p] := ⟨E.dropLast, E.getLast hne, (List.dropLast_concat_getLast hne).symm⟩
    have h1 := ih F (by simpa using h) hf.front (fun q hq => hn q (by simp [hq]))
    have h2 := hf.last
    have h3 := hn p (by simp)
    have i1 := lab_idem F p.1
    have i2 := lab_idem F p.2
    have l1 := lab_le F p.1
    have l2 := lab_le F p.2
    have h4 := countP_drop n (fun x => labF F x == x) (fun x => labF (F ++ [p]) x == x) (max (labF F p.1) (labF F p.2)) (by omega) ?_ ?_ ?_
    · unfold roots at h1 ⊢
      simp only [List.length_append, List.length_singleton]
      omega
    · simp only [beq_iff_eq]
      rcases Nat.le_total (labF F p.1) (labF F p.2) with hle | hle
      · rw [Nat.max_eq_right hle, i2]
      · rw [Nat.max_eq_left hle, i1]
    · simp only [beq_eq_false_iff_ne]
      rw [labF_snoc]
      unfold joinF
      rcases Nat.le_total (labF F p.1) (labF F p.2) with hle | hle
      · rw [Nat.max_eq_right hle, i2, if_pos rfl]; omega
      · rw [Nat.max_eq_left hle, i1, if_pos rfl]; omega
    · intro x hx
      have i3 := lab_idem F x
      rw [labF_snoc]
      unfold joinF
      rw [Bool.eq_iff_iff]
      simp only [beq_iff_eq]
      split
      · rename_i hm
        constructor
        · intro e
          exfalso
          rcases Nat.le_total (labF F p.1) (labF F p.2) with hle | hle
          · rw [Nat.min_eq_left hle] at e
            rw [← e, i1, Nat.max_eq_right hle] at hm
            exact h2 hm
          · rw [Nat.min_eq_right hle] at e
            rw [← e, i2, Nat.max_eq_left hle] at hm
            exact h2 hm.symm
        · intro e
          omega
      · rfl
end Go.Proofs.YtfhamfgcjdhmdaaGreatDoor

namespace Go.Proofs.YtfhamfgcjdhmdaaGreatDoor
open Go.RowKit
set_option linter.unusedVariables false

/-- Block g is an array, all of it known, none of it frozen. -/
def RArr {α : Type} (f : α → Value) (t : TypeId) (w : World) (g : Nat) (xs : List α) : Prop := w.heap[g]? = some (.cells (xs.map f).toArray t (0, 0))

section
variable {α : Type} {f : α → Value} {t : TypeId} {w w' : World} {g : Nat} {xs : List α}
theorem RArr.lt (h : RArr f t w g xs) : g < w.heap.size := (Array.getElem?_eq_some_iff.1 h).1
theorem RArr.cell (h : RArr f t w g xs) (i : Nat) (hi : i < xs.length) : w.cell? ⟨g, i, none⟩ = some (f xs[i]) := by
  unfold RArr at h
  simp [World.cell?, h, hi]
theorem RArr.free (h : RArr f t w g xs) (i : Nat) : w.frozen? ⟨g, i, none⟩ = false := by
  unfold RArr at h
  simp [World.frozen?, h]
theorem RArr.set (h : RArr f t w g xs) (i : Nat) (x : α) (z : Value) (hz : z = f x) : RArr f t (w.setCell ⟨g, i, none⟩ z) g (xs.set i x) := by
  unfold RArr at h ⊢
  rw [heap_setCell_same w g i _ _ _ h, hz]
  simp [List.map_set]
theorem RArr.keep {row : Option Nat} (h : RArr f t w g xs) (hg : w.grownBy w' row) (hr : some g ≠ row) : RArr f t w' g xs := by
  have hl := h.lt
  unfold RArr at h ⊢
  rw [hg.block g hl hr, h]
theorem RArr.keep0 (h : RArr f t w g xs) (hg : w.grownBy w' none) : RArr f t w' g xs := h.keep hg (by simp)
end

abbrev iv (x : Int) : Value := .int .i64 x
abbrev bv (b : Bool) : Value := .bool b
abbrev IArr (w : World) (g : Nat) (xs : List Int) : Prop := RArr iv 3 w g xs
abbrev BArr (w : World) (g : Nat) (xs : List Bool) : Prop := RArr bv 4 w g xs

/-- 'make([]T, n)', T of one cell. -/
theorem wpList_make_g {P : Program} {α : Type} (f : α → Value) (e : TypeId) (z0 : α) (by_ : Nat) (w : World) {ops : Array Oper} {rest : List Oper} {o : Oper} {a : Act} {Q : Exit → Act → World → Prop}
    (hg : o.guard = none) (l c : Operand) (t : TypeId) (hop : o.op = Op.makeSlice t l c)
    (h1 : P.underlying t = some (.slice e)) (hinfo : (P.info? e).map (fun i => (i.zero, i.size, i.bytes)) = some (some (f z0), 1, by_)) (hcell : (f z0).cells = #[f z0])
    (kl kc : IntKind) (L C : Int) (n : Nat) (hl : a.eval l = .int kl L) (hc : a.eval c = .int kc C) (hL : L = (n : Int)) (hC : C = (n : Int)) (b2 : n ≤ 1073741824) (hby : by_ ≤ 8)
    (hK : ∀ w', RArr f e w' w.heap.size (List.replicate n z0) → w.grownBy w' none → wpList P ops Q rest (a.put o.dst (.slice (some ⟨w.heap.size, 0, none⟩) n n)) w') :
    wpList P ops Q (o :: rest) a w := by
  obtain ⟨i, hi, hz0, hz1, hz2⟩ := info_parts hinfo
  refine wpList_make_full w hg l c t hop w.heap.size e i (f z0) 1 h1 hi hz0 hz1 kl kc L C n hl hc hL hC (by rw [hz2]; have := Nat.mul_le_mul hby b2; omega) (by unfold maxLen; omega) (Nat.le_refl _) ?_
  intro w' hown hgr
  refine hK w' ?_ hgr
  obtain ⟨_, h⟩ := hown
  rcases h with ⟨h, _⟩ | ⟨g, cap, cur, h, _, hh, _, _, hsz, ht⟩
  · simp at h
  · simp only [Value.slice.injEq, Option.some.injEq, Addr.mk.injEq, and_true, true_and] at h
    obtain ⟨rfl, rfl⟩ := h
    unfold RArr
    rw [hh]
    have hm : madeCells (f z0).cells (n * 1) = ((List.replicate n z0).map f).toArray := by
      apply Array.ext
      · simp [madeCells]
      · intro i h1 h2
        simp [madeCells, hcell, Nat.mod_one]
    have : cur = ((List.replicate n z0).map f).toArray := by
      rw [← hm]
      apply Array.ext'
      rw [← ht, List.take_of_length_le (by simp [hsz])]
    rw [this]

theorem Tryz.infoInt : (Tryz.prog.info? 3).map (fun i => (i.zero, i.size, i.bytes)) = some (some (iv 0), 1, 8) := by kernel_rfl
theorem Tryz.infoBool : (Tryz.prog.info? 4).map (fun i => (i.zero, i.size, i.bytes)) = some (some (bv false), 1, 1) := by kernel_rfl

/-- The labels of n nodes. -/
def labs (n : Nat) (l : Nat → Nat) : List Int := (List.range n).map fun x => ((l x : Nat) : Int)

theorem labs_length (n : Nat) (l : Nat → Nat) : (labs n l).length = n := by simp [labs]
theorem labs_get (n : Nat) (l : Nat → Nat) (i : Nat) (h : i < (labs n l).length) : (labs n l)[i] = ((l i : Nat) : Int) := by simp [labs]
theorem labs_set (n : Nat) (l : Nat → Nat) (i y : Nat) (h : i < n) : (labs n l).set i ((y : Nat) : Int) = labs n (fun x => if x = i then y else l x) := by
  apply List.ext_getElem
  · simp [labs]
  · intro k h1 h2
    rw [List.getElem_set]
    by_cases e : i = k
    · subst e; simp [labs]
    · have e2 : ¬ k = i := fun h => e h.symm
      simp [labs, e, e2]
theorem labs_congr (n : Nat) (l m : Nat → Nat) (h : ∀ x, x < n → l x = m x) : labs n l = labs n m := by
  unfold labs
  apply List.map_congr_left
  intro x hx
  rw [h x (List.mem_range.1 hx)]

def ApR (w : World) (n : Nat) (v : Value) (wr : World) : Prop := ∃ k : Nat, k ≤ n ∧ v = .int .i64 k ∧ IArr wr w.heap.size (labs n fun x => if x < k then x else 0) ∧ w.grownBy wr none

set_option maxHeartbeats 1000000 in
theorem apart_at (n : Nat) (w : World) (hn : n ≤ 8) :
    Calls Tryz.prog 84 #[.int .i64 (n : Nat)] w fun e w' => e = .returned (.slice (some ⟨w.heap.size, 0, none⟩) n n) ∧ IArr w' w.heap.size (labs n (labF [])) ∧ w.grownBy w' none := by
  go_enter Tryz.func84, Tryz.ntmps84
  go_wp2_with (at_make; refine wpList_make_g iv 3 0 8 _ rfl _ _ 119 rfl Tryz.underlying119 Tryz.infoInt rfl _ _ _ _ n rfl rfl (by omega) (by omega) (by omega) (by omega) ?_)
  intro w1 harr hgr
  have HR := hide harr
  have HG := hide hgr
  clear harr hgr
  go_wp2
  go_loopw [9] (fun v wr => Hid (ApR w n v wr)) (fun v _ => n - (intOf v).toNat)
  case atStart =>
    refine ⟨0, by omega, rfl, ?_, HG.out⟩
    have e : labs n (fun x => if x < 0 then x else 0) = List.replicate n 0 := by
      apply List.ext_getElem
      · simp [labs]
      · intro i h1 h2; simp [labs]
    rw [e]
    exact HR.out
  case round =>
    obtain ⟨k, hk, rfl, h1, h2⟩ := hrel.out
    by_cases hlt : k < n
    · have hfr := h1.free k
      obtain ⟨v0, hco⟩ : ∃ v, wr.cell? ⟨w.heap.size, k, none⟩ = some v := ⟨_, h1.cell k (by rw [labs_length]; exact hlt)⟩
      have H1 := hide h1
      have H2 := hide h2
      clear h1 h2 hrel
      go_wp2
      go_roundw
      case rel =>
        refine ⟨k + 1, by omega, by go_num, ?_, gr_set H2.out _ _ (Nat.le_refl _)⟩
        have := H1.out.set k ((k : Nat) : Int) (.int .i64 (k : Nat)) rfl
        rw [labs_set n _ k k hlt] at this
        rw [labs_congr n (fun x => if x < k + 1 then x else 0) (fun x => if x = k then k else if x < k then x else 0)]
        · exact this
        · intro x hx
          by_cases e : x = k
          · subst e; simp
          · by_cases e2 : x < k
            · rw [if_pos (by omega), if_neg e, if_pos e2]
            · rw [if_neg (by omega), if_neg e, if_neg e2]
      case measure => simp [intOf]; omega
    · obtain rfl : k = n := by omega
      have H1 := hide h1
      have H2 := hide h2
      clear h1 h2 hrel
      go_wp2
      go_ret
      refine ⟨rfl, ?_, H2.out⟩
      rw [labs_congr k (labF []) (fun x => if x < k then x else 0) (fun x hx => by rw [if_pos hx]; rfl)]
      exact H1.out
end Go.Proofs.YtfhamfgcjdhmdaaGreatDoor

namespace Go.Proofs.YtfhamfgcjdhmdaaGreatDoor
open Go.RowKit
set_option linter.unusedVariables false

def JoR (w : World) (g n : Nat) (l : Nat → Nat) (hi lo : Nat) (v : Value) (wr : World) : Prop := ∃ k : Nat, k ≤ n ∧ v = .int .i64 k ∧ IArr wr g (labs n fun x => if x < k then (if l x = hi then lo else l x) else l x) ∧ w.grownBy wr (some g)

set_option maxHeartbeats 2000000 in
set_option maxRecDepth 10000 in
theorem join_at (g n cap : Nat) (l : Nat → Nat) (a b : Nat) (w : World) (hn : n ≤ 8) (ha : a < n) (hb : b < n) (h : IArr w g (labs n l)) (hl : ∀ x, x < n → l x ≤ 8) (hc1 : n ≤ cap) (hc2 : cap ≤ maxLen) :
    Calls Tryz.prog 85 #[.slice (some ⟨g, 0, none⟩) n cap, .int .i64 (a : Nat), .int .i64 (b : Nat)] w fun e w' => e = .returned (.tuple #[]) ∧ IArr w' g (labs n (joinF l (a, b))) ∧ w.grownBy w' (some g) := by
  unfold maxLen at hc2
  have ca := h.cell a (by rw [labs_length]; exact ha)
  have cb := h.cell b (by rw [labs_length]; exact hb)
  rw [labs_get] at ca cb
  have la := hl a ha
  have lb := hl b hb
  obtain ⟨x, hx⟩ : ∃ x, x = l a := ⟨_, rfl⟩
  obtain ⟨y, hy⟩ : ∃ y, y = l b := ⟨_, rfl⟩
  rw [← hx] at ca la
  rw [← hy] at cb lb
  have H := hide h
  have HX := hide hx
  have HY := hide hy
  have HL := hide hl
  have hmin : min (x : Int) (y : Int) = ((min x y : Nat) : Int) := by omega
  have hmax : max (x : Int) (y : Int) = ((max x y : Nat) : Int) := by omega
  obtain ⟨lo, hlo⟩ : ∃ lo, lo = min x y := ⟨_, rfl⟩
  obtain ⟨hi, hhi⟩ : ∃ hi, hi = max x y := ⟨_, rfl⟩
  rw [← hlo] at hmin
  rw [← hhi] at hmax
  have HLO := hide hlo
  have HHI := hide hhi
  clear h hx hy hl hlo hhi
  go_enter Tryz.func85, Tryz.ntmps85
  go_wp2
  go_quiet (fail)
  go_wp2
  clear hmin hmax ca cb
  go_loopw [30] (fun v wr => Hid (JoR w g n l hi lo v wr)) (fun v _ => n - (intOf v).toNat)
  case atStart =>
    refine ⟨0, by omega, rfl, ?_, gr_drewN (gr_refl _ _) _⟩
    exact H.out
  case round =>
    obtain ⟨k, hk, rfl, h1, h2⟩ := hrel.out
    by_cases hlt : k < n
    · have hfr := h1.free k
      have hco := h1.cell k (by rw [labs_length]; exact hlt)
      rw [labs_get, if_neg (Nat.lt_irrefl k)] at hco
      have hlk := HL.out k hlt
      obtain ⟨q, hq⟩ : ∃ q, q = l k := ⟨_, rfl⟩
      rw [← hq] at hco hlk
      have HQ := hide hq
      have H1 := hide h1
      have H2 := hide h2
      clear h1 h2 hrel hq
      by_cases he : q = hi
      · have he' : ((q : Int) == (hi : Int)) = true := by simp [he]
        have HE := hide he
        clear he
        go_wp2
        go_roundw
        case rel =>
          refine ⟨k + 1, by omega, by go_num, ?_, gr_row H2.out g k _ rfl⟩
          have := H1.out.set k ((lo : Nat) : Int) (.int .i64 (lo : Nat)) rfl
          rw [labs_set n _ k lo hlt] at this
          rw [labs_congr n (fun x => if x < k + 1 then (if l x = hi then lo else l x) else l x) (fun x => if x = k then lo else if x < k then (if l x = hi then lo else l x) else l x)]
          · exact this
          · intro x hx
            by_cases e : x = k
            · subst e
              rw [if_pos (by omega), if_pos (by rw [← HQ.out]; exact HE.out), if_pos rfl]
            · by_cases e2 : x < k
              · rw [if_pos (by omega), if_neg e, if_pos e2]
              · rw [if_neg (by omega), if_neg e, if_neg e2]
        case measure => simp [intOf]; omega
      · have he' : ((q : Int) == (hi : Int)) = false := by simp; omega
        have HE := hide he
        clear he
        go_wp2
        go_roundw
        case rel =>
          refine ⟨k + 1, by omega, by go_num, ?_, H2.out⟩
          rw [labs_congr n (fun x => if x < k + 1 then (if l x = hi then lo else l x) else l x) (fun x => if x < k then (if l x = hi then lo else l x) else l x)]
          · exact H1.out
          · intro x hx
            by_cases e : x = k
            · subst e
              rw [if_pos (by omega), if_neg (by rw [← HQ.out]; exact HE.out), if_neg (by omega)]
            · by_cases e2 : x < k
              · rw [if_pos (by omega), if_pos e2]
              · rw [if_neg (by omega), if_neg e2]
        case measure => simp [intOf]; omega
    · obtain rfl : k = n := by omega
      have H1 := hide h1
      have H2 := hide h2
      clear h1 h2 hrel
      go_wp2
      go_end0
      refine ⟨rfl, ?_, H2.out⟩
      rw [labs_congr k (joinF l (a, b)) (fun x => if x < k then (if l x = hi then lo else l x) else l x)]
      · exact H1.out
      · intro x hx
        rw [if_pos hx]
        unfold joinF
        rw [HHI.out, HLO.out, HX.out, HY.out]

/-- Labels that were joined. -/
theorem join_lab (g n cap : Nat) (E : List Pr) (a b : Nat) (w : World) (hn : n ≤ 8) (ha : a < n) (hb : b < n) (h : IArr w g (labs n (labF E))) (hc1 : n ≤ cap) (hc2 : cap ≤ maxLen) :
    Calls Tryz.prog 85 #[.slice (some ⟨g, 0, none⟩) n cap, .int .i64 (a : Nat), .int .i64 (b : Nat)] w fun e w' => e = .returned (.tuple #[]) ∧ IArr w' g (labs n (labF (E ++ [(a, b)]))) ∧ w.grownBy w' (some g) := by
  rw [labF_snoc]
  exact join_at g n cap (labF E) a b w hn ha hb h (fun x hx => by have := lab_le E x; omega) hc1 hc2
end Go.Proofs.YtfhamfgcjdhmdaaGreatDoor

namespace Go.Proofs.YtfhamfgcjdhmdaaGreatDoor
open Go.RowKit
set_option linter.unusedVariables false

/-- The parts' ends. -/
def prs (ps : List Prt) : List Pr := ps.map fun p => (p.a.toNat, p.b.toNat)

/-- A right net. -/
structure Good (nodes : Int) (ps : List Prt) (n : Nat) : Prop where
  nodes : nodes = (n : Int)
  lo : 1 ≤ n
  hi : n ≤ 8
  len : ps.length ≤ 16
  ends : ∀ i (h : i < ps.length), ∃ a b : Nat, ps[i].a = (a : Int) ∧ ps[i].b = (b : Int) ∧ a < n ∧ b < n

theorem first_ok {nodes : Int} {ps : List Prt} {i : Nat} (h : (firstBad nodes ps i).1 = 0) : ∀ p ∈ ps, wrongP p nodes = 0 := by
  induction ps generalizing i with
  | nil => intro p hp; simp at hp
  | cons q r ih =>
    intro p hp
    by_cases hq : wrongP q nodes = 0
    · rw [firstBad, if_pos hq] at h
      rcases List.mem_cons.1 hp with rfl | hp
      · exact hq
      · exact ih h p hp
    · rw [firstBad, if_neg hq] at h
      exact absurd h hq

theorem wrong_ends {p : Prt} {nodes : Int} (h : wrongP p nodes = 0) : isN p.a nodes = true ∧ isN p.b nodes = true := by
  unfold wrongP at h
  split at h
  · exact absurd h (by decide)
  · unfold wrongK at h
    split at h
    · exact absurd h (by decide)
    · rename_i h1
      constructor
      · cases h2 : isN p.a nodes with
        | true => rfl
        | false => rw [h2] at h1; simp at h1
      · cases h2 : isN p.b nodes with
        | true => rfl
        | false => rw [h2] at h1; simp at h1

theorem good_of {nodes : Int} {ps : List Prt} (h : (checkN nodes ps).1 = 0) : Good nodes ps nodes.toNat ∧ checkN nodes ps = (0, 0) := by
  unfold checkN at h ⊢
  by_cases hm : nodes < 1 ∨ 8 < nodes ∨ 16 < ps.length
  · rw [if_pos hm] at h
    exact absurd h (by decide)
  · rw [if_neg hm] at h ⊢
    have hall := first_ok h
    refine ⟨⟨by omega, by omega, by omega, by omega, fun i hi => ?_⟩, ?_⟩
    · obtain ⟨h1, h2⟩ := wrong_ends (hall ps[i] (List.getElem_mem hi))
      unfold isN at h1 h2
      rw [Bool.and_eq_true, decide_eq_true_eq, decide_eq_true_eq] at h1 h2
      exact ⟨ps[i].a.toNat, ps[i].b.toNat, by omega, by omega, by omega, by omega⟩
    · have key : ∀ (qs : List Prt) (i : Nat), (∀ p ∈ qs, wrongP p nodes = 0) → firstBad nodes qs i = (0, 0) := by
        intro qs
        induction qs with
        | nil => intro i _; rfl
        | cons q r ih =>
          intro i hq
          rw [firstBad, if_pos (hq q (by simp))]
          exact ih _ (fun p hp => hq p (by simp [hp]))
      exact key ps 0 hall

/-- What a function says of a net that is wrong. -/
def BadE (w : World) (C : Int × Int) (e : Ending) (w' : World) : Prop := e = .returned (.tuple #[.slice none 0 0, .agg #[.int .i64 C.1, .int .i64 C.2]]) ∧ w.grownBy w' none

set_option maxHeartbeats 2000000 in
set_option maxRecDepth 10000 in
theorem islands_bad (nodes : Int) (pv : Value) (ps : List Prt) (w : World) (hb : Base w) (hp : PartsAt w pv ps) (hC : (checkN nodes ps).1 ≠ 0) :
    Calls Tryz.prog 19 #[.agg #[.int .i64 nodes, pv]] w fun e w' => BadE w (checkN nodes ps) e w' := by
  have HB := hide hb
  have HP := hide hp
  obtain ⟨ao, cap, rfl, h1, h2, h3⟩ := hp
  clear h3 hb h2
  go_enter Tryz.func19, Tryz.ntmps19
  go_wp2_with fail
  have gW : w.grownBy ((w.alloc (Obj.cells #[.int .i64 nodes, .slice ao ps.length cap] 38)).alloc (Obj.cells #[.int .i64 0, .int .i64 0] 26)) none := gr_alloc (gr_alloc (gr_refl _ _) _) _
  have GW := hide gW
  clear gW
  refine (Check_at nodes _ ps _ (HB.out.keep GW.out) (HP.out.keep GW.out)).mono ?_
  intro e w1 hE
  obtain ⟨rfl, g1⟩ := hE
  have HG := hide (gr_none GW.out g1)
  have hrr : w1.cell? ⟨w.heap.size + 1, 0, none⟩ = some (.int .i64 0) ∧ w1.cell? ⟨w.heap.size + 1, 1, none⟩ = some (.int .i64 0) ∧ (∀ i, w1.frozen? ⟨w.heap.size + 1, i, none⟩ = false) := by
    have := res_two g1
    simpa using this
  obtain ⟨r0, r1, rf⟩ := hrr
  have rf0 := rf 0
  have rf1 := rf 1
  have hsz : w.heap.size + 1 < w1.heap.size := by have := g1.size; simp at this; omega
  obtain ⟨C, hC'⟩ : ∃ C, C = checkN nodes ps := ⟨_, rfl⟩
  rw [← hC'] at hC ⊢
  obtain ⟨C1, C2⟩ := C
  simp only at hC
  have hz := ne_beq hC
  have HC := hide hC'
  clear rf g1 hC' hC
  go_wp2
  go_region
  go_wp2
  refine bodyPost_ret (v := .tuple #[.slice none 0 0, .agg #[.int .i64 C1, .int .i64 C2]]) (by simp [results, Tryz.results19, go_sem, r0, r1, hsz]) rfl ?_
  refine ⟨?_, ?_⟩
  · rw [← HC.out]
  · exact gr_drewN (gr_alloc (gr_set (gr_set HG.out _ _ (by simp)) _ _ (by simp)) _) 1

/-- What Islands answers of a right net. -/
def IslE (w : World) (ps : List Prt) (n : Nat) (e : Ending) (w' : World) : Prop := ∃ g, e = .returned (.tuple #[.slice (some ⟨g, 0, none⟩) n n, .agg #[.int .i64 0, .int .i64 0]]) ∧ IArr w' g (labs n (labF (prs ps))) ∧ w.grownBy w' none

def IslR (W : World) (g n : Nat) (ps : List Prt) (v : Value) (wr : World) : Prop := ∃ i : Nat, i ≤ ps.length ∧ v = .int .i64 i ∧ IArr wr g (labs n (labF ((prs ps).take i))) ∧ W.grownBy wr none

theorem prs_take {ps : List Prt} {i : Nat} (h : i < ps.length) : (prs ps).take (i + 1) = (prs ps).take i ++ [(ps[i].a.toNat, ps[i].b.toNat)] := by
  rw [List.take_succ_eq_append_getElem (by simp [prs]; exact h)]
  simp [prs]

/-- New memory on top of new memory, and one block of it written. -/
theorem gr_blk {w w1 w2 : World} {g : Nat} (h : w.grownBy w1 none) (k : w1.grownBy w2 (some g)) (hg : w.heap.size ≤ g) : w.grownBy w2 none := gr_in h k hg

set_option maxHeartbeats 4000000 in
set_option maxRecDepth 10000 in
theorem islands_ok (nodes : Int) (pv : Value) (ps : List Prt) (n : Nat) (w : World) (hb : Base w) (hp : PartsAt w pv ps) (hG : Good nodes ps n) (hC : checkN nodes ps = (0, 0)) :
    Calls Tryz.prog 19 #[.agg #[.int .i64 nodes, pv]] w fun e w' => IslE w ps n e w' := by
  have HB := hide hb
  have HP := hide hp
  obtain ⟨ao, cap, rfl, h1, h2, h3⟩ := hp
  unfold maxLen at h2
  obtain ⟨rfl, g1, g2, g3, g4⟩ := hG
  have HE := hide g4
  have HPC := hide h3
  have HCK := hide hC
  clear h3 hb g4 hC
  go_enter Tryz.func19, Tryz.ntmps19
  go_wp2_with fail
  have gW : w.grownBy ((w.alloc (Obj.cells #[.int .i64 (n : Nat), .slice ao ps.length cap] 38)).alloc (Obj.cells #[.int .i64 0, .int .i64 0] 26)) none := gr_alloc (gr_alloc (gr_refl _ _) _) _
  have GW := hide gW
  clear gW
  refine (Check_at (n : Nat) _ ps _ (HB.out.keep GW.out) (HP.out.keep GW.out)).mono ?_
  intro e w1 hE
  obtain ⟨rfl, k1⟩ := hE
  rw [HCK.out]
  have K1 := hide k1
  have HG := hide (gr_none GW.out k1)
  have b0 := k1.cell (a := ⟨w.heap.size, 0, none⟩) (v := .int .i64 (n : Nat)) (by go_simp) (by simp)
  have b1 := k1.cell (a := ⟨w.heap.size, 1, none⟩) (v := .slice ao ps.length cap) (by go_simp) (by simp)
  have hsz : w.heap.size + 1 < w1.heap.size := by have := k1.size; simp at this; omega
  have hsz0 : w.heap.size < w1.heap.size := by omega
  clear k1
  obtain ⟨Wa, hWa⟩ : ∃ W, W = (w.alloc (Obj.cells #[.int .i64 (n : Nat), .slice ao ps.length cap] 38)).alloc (Obj.cells #[.int .i64 0, .int .i64 0] 26) := ⟨_, rfl⟩
  rw [← hWa] at K1 GW
  have RES : Hid (∀ wr : World, Wa.grownBy wr none → wr.cell? ⟨w.heap.size + 1, 0, none⟩ = some (.int .i64 0) ∧ wr.cell? ⟨w.heap.size + 1, 1, none⟩ = some (.int .i64 0) ∧ (∀ i, wr.frozen? ⟨w.heap.size + 1, i, none⟩ = false) ∧ wr.cell? ⟨w.heap.size, 0, none⟩ = some (.int .i64 (n : Nat)) ∧ wr.cell? ⟨w.heap.size, 1, none⟩ = some (.slice ao ps.length cap)) := by
    intro wr hg
    rw [hWa] at hg
    have := res_two hg
    refine ⟨by simpa using this.1, by simpa using this.2.1, by simpa using this.2.2, hg.cell (by go_simp) (by simp), hg.cell (by go_simp) (by simp)⟩
  have hWs : Wa.heap.size = w.heap.size + 2 := by rw [hWa]; simp
  have HWS := hide hWs
  clear hWa hWs
  go_wp2_with fail
  refine (apart_at n _ g2).mono ?_
  rintro e w2 ⟨rfl, a1, a2⟩
  have A1 := hide a1
  have A2 := hide (gr_none (gr_alloc K1.out _) a2)
  have hgs : Wa.heap.size ≤ (w1.alloc (Obj.cells #[Value.int IntKind.i64 0, Value.int IntKind.i64 0] 26)).heap.size := (gr_alloc K1.out _).size
  generalize (w1.alloc (Obj.cells #[Value.int IntKind.i64 0, Value.int IntKind.i64 0] 26)).heap.size = g at *
  obtain ⟨_, _, _, n0, n1⟩ := RES.out w2 A2.out
  clear a1 a2 b0 b1
  go_wp2
  go_loopw [20] (fun v wr => Hid (IslR Wa g n ps v wr)) (fun v _ => ps.length - (intOf v).toNat)
  case atStart => exact ⟨0, by omega, rfl, A1.out, A2.out⟩
  case round =>
    obtain ⟨i, hi, rfl, l1, l2⟩ := hrel.out
    have L1 := hide l1
    have L2 := hide l2
    obtain ⟨r0, r1, rf, _, _⟩ := RES.out wr l2
    have rf0 := rf 0
    have rf1 := rf 1
    clear l1 l2 hrel rf n0 n1 A1
    by_cases hlt : i < ps.length
    · obtain ⟨b, off, rfl, hb, c0, c1, c2, c3, c4, c5, c6⟩ := HPC.out i hlt
      have hgg := gr_none GW.out L2.out
      obtain ⟨ea, eb, e1, e2, e3, e4⟩ := HE.out i hlt
      have q0 := hgg.cell c0 (by simp)
      have q1 := hgg.cell c1 (by simp)
      have q2 := hgg.cell c2 (by simp)
      have q3 := hgg.cell c3 (by simp)
      have q4 := hgg.cell c4 (by simp)
      have q5 := hgg.cell c5 (by simp)
      have hpt := prs_take (ps := ps) hlt
      rw [e1, e2, Int.toNat_natCast, Int.toNat_natCast] at hpt
      rw [e1] at q1
      rw [e2] at q2
      have HPT := hide hpt
      generalize ps[i].kind = z0 at q0
      generalize ps[i].c = z3 at q3
      generalize ps[i].d = z4 at q4
      generalize ps[i].v = z5 at q5
      clear c0 c1 c2 c3 c4 c5 c6 hgg e1 e2 hpt HPC
      go_wp2_with fail
      refine (join_lab g n n ((prs ps).take i) ea eb _ g2 e3 e4 (L1.out.keep0 (gr_alloc (gr_refl _ _) _)) (by omega) (by unfold maxLen; omega)).mono ?_
      rintro e w3 ⟨rfl, j1, j2⟩
      have J1 := hide j1
      have J2 := hide (gr_in (gr_alloc L2.out _) j2 hgs)
      clear j1 j2
      go_wp2
      go_roundw
      case rel => exact ⟨i + 1, by omega, by go_num, by rw [HPT.out]; exact J1.out, J2.out⟩
      case measure => simp [intOf]; omega
    · have ht : (prs ps).take i = prs ps := List.take_of_length_le (by simp [prs]; omega)
      have HT := hide ht
      clear ht HPC
      go_wp2
      refine bodyPost_ret (v := .tuple #[.slice (some ⟨g, 0, none⟩) n n, .agg #[.int .i64 0, .int .i64 0]]) (by simp [results, Tryz.results19, go_sem, r0, r1]) rfl ?_
      refine ⟨g, rfl, ?_, gr_set (gr_set (gr_none GW.out L2.out) _ _ (by simp)) _ _ (by simp)⟩
      have h5 := L1.out
      rw [HT.out] at h5
      have hne : some g ≠ some (w.heap.size + 1) := by
        intro e
        have := Option.some.inj e
        have := HWS.out
        omega
      exact (h5.keep (gr_row (gr_refl wr _) (w.heap.size + 1) 0 (.int .i64 0) rfl) hne).keep (gr_row (gr_refl _ _) (w.heap.size + 1) 1 (.int .i64 0) rfl) hne
end Go.Proofs.YtfhamfgcjdhmdaaGreatDoor
