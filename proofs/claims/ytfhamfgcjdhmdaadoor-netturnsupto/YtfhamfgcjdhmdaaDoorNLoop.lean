/- net: loop. -/
import Derived.Test.YtfhamfgcjdhmdaaDoorNCuts
namespace Go.Proofs.YtfhamfgcjdhmdaaDoor
open Go.RowKit
set_option linter.unusedVariables false

/-- Slices of slices of whole numbers. -/
def Rows2 (w : World) (v : Value) (css : List (List Int)) : Prop :=
  ∃ vals : List Value, RowG id w v vals ∧ vals.length = css.length ∧ ∀ i (h : i < vals.length) (h' : i < css.length), RowG iv w vals[i] css[i]

theorem Own2.rows {w : World} {base : Nat} {v : Value} {css : List (List Int)} (h : Own2 w base v css) : Rows2 w v css := by
  obtain ⟨vals, h1, h2, h3⟩ := h
  exact ⟨vals, h1.row, h2, fun i hi hi' => (h3 i hi hi').1⟩

theorem Rows2.keep {w w' : World} {v : Value} {css : List (List Int)} (h : Rows2 w v css) (hg : w.grownBy w' none) : Rows2 w' v css := by
  obtain ⟨vals, h1, h2, h3⟩ := h
  exact ⟨vals, h1.keep hg, h2, fun i hi hi' => (h3 i hi hi').keep hg⟩

/-- A loop, when i parts of the tree are done. -/
def loopUpto (m part : Nat) (T : List Nat) (css : List (List Int)) : Nat → List Int
  | 0 => List.replicate m 0
  | i + 1 => (loopUpto m part T css i).set (T.getD i 0) (-((css.getD i []).getD part 0))

def loopVec (m part : Nat) (T : List Nat) (css : List (List Int)) : List Int := (loopUpto m part T css T.length).set part 1

theorem loopUpto_length (m part : Nat) (T : List Nat) (css : List (List Int)) (i : Nat) : (loopUpto m part T css i).length = m := by
  induction i with
  | zero => simp [loopUpto]
  | succ i ih => simp [loopUpto, ih]

def LoopR (W : World) (g m part : Nat) (T : List Nat) (css : List (List Int)) (v : Value) (wr : World) : Prop := ∃ i : Nat, i ≤ T.length ∧ v = .int .i64 i ∧ IArr wr g (loopUpto m part T css i) ∧ W.grownBy wr none

/-- What loop answers. -/
def LoopE (w : World) (m part : Nat) (T : List Nat) (css : List (List Int)) (e : Ending) (w' : World) : Prop := ∃ g, e = .returned (.slice (some ⟨g, 0, none⟩) m m) ∧ IArr w' g (loopVec m part T css) ∧ w.grownBy w' none ∧ w.heap.size ≤ g

set_option maxHeartbeats 4000000 in
set_option maxRecDepth 10000 in
theorem loop_at (nodes : Int) (o : Option Addr) (m pc part : Nat) (tv cv : Value) (T : List Nat) (css : List (List Int)) (w : World) (hT : RowG nv w tv T) (hTl : ∀ x ∈ T, x < m) (hm : m ≤ 16) (hT16 : T.length ≤ 16) (hC : Rows2 w cv css) (hcl : css.length = T.length) (hrow : ∀ i (h : i < css.length), css[i].length = m) (hbd : ∀ i (h : i < css.length), ∀ x ∈ css[i], -1 ≤ x ∧ x ≤ 1) (hpart : part < m) (hpc : m ≤ pc) (hpc2 : pc ≤ maxLen) :
    Calls Tryd.prog 13 #[.agg #[.int .i64 nodes, .slice o m pc], .int .i64 (part : Nat), tv, cv] w fun e w' => LoopE w m part T css e w' := by
  obtain ⟨to_, tc, rfl, t1, t2, t3⟩ := hT
  obtain ⟨vals, ⟨co, cc, rfl, c1, c2, c3⟩, c4, c5⟩ := hC
  unfold maxLen at t2 c2 hpc2
  have HTC := hide t3
  have HTL := hide hTl
  have HC3 := hide c3
  have HC4 := hide c4
  have HC5 := hide c5
  have HCL := hide hcl
  have HROW := hide hrow
  have HBD := hide hbd
  have hvT : vals.length ≤ T.length := by omega
  have hTv : T.length ≤ vals.length := by omega
  clear t3 hTl c3 c4 c5 hcl hrow hbd
  go_enter Tryd.func13, Tryd.ntmps13
  go_wp2_with (at_make; refine wpList_make_g iv 3 0 8 _ rfl _ _ 32 rfl Tryd.underlying32 Tryd.infoInt rfl _ _ _ _ m rfl rfl (by omega) (by omega) (by omega) (by omega) ?_)
  intro w2 harr hgr
  have HR : Hid (IArr w2 (w.heap.size + 1) (List.replicate m 0)) := by first | exact harr | simpa using harr
  have HGR := hide (gr_none (gr_alloc (gr_refl w none) _) hgr)
  clear harr hgr
  go_wp2
  go_loopw [18] (fun v wr => Hid (LoopR w (w.heap.size + 1) m part T css v wr)) (fun v _ => T.length - (intOf v).toNat)
  case atStart => exact ⟨0, by omega, rfl, HR.out, HGR.out⟩
  case round =>
    obtain ⟨i, hi, rfl, l1, l2⟩ := hrel.out
    have L1 := hide l1
    have L2 := hide l2
    clear l1 l2 hrel
    by_cases hlt : i < T.length
    · obtain ⟨tb, toff, rfl, htb, htc⟩ := HTC.out i hlt
      obtain ⟨cb, coff, rfl, hcb, hcc⟩ := HC3.out i (by omega)
      have hci : i < css.length := by rw [HCL.out]; exact hlt
      obtain ⟨ro, rc, re, r1, r2, r3⟩ := HC5.out i (by omega) hci
      have hrl := HROW.out i hci
      obtain ⟨rb, roff, rfl, hrb, hrc⟩ := r3 part (by omega)
      have hxb := HBD.out i hci (css[i][part]'(by omega)) (List.getElem_mem _)
      have htl := HTL.out T[i] (List.getElem_mem hlt)
      have eT : T.getD i 0 = T[i] := by simp [List.getD, hlt]
      have eC : (css.getD i []).getD part 0 = css[i][part]'(by omega) := by
        have : css.getD i [] = css[i] := by simp [List.getD, hci]
        rw [this]
        simp [List.getD, hrl, hpart]
      have qt := L2.out.cell htc (by simp)
      have qc := L2.out.cell hcc (by simp)
      have qr := L2.out.cell hrc (by simp)
      simp only [id] at qc
      rw [re, hrl] at qc
      rw [hrl] at r1
      obtain ⟨x, hx⟩ : ∃ x, x = T[i] := ⟨_, rfl⟩
      obtain ⟨y, hy⟩ : ∃ y, y = css[i][part]'(by omega) := ⟨_, rfl⟩
      rw [← hx] at qt htl eT
      rw [← hy] at qr hxb eC
      obtain ⟨y1, y2⟩ := hxb
      have hfr := L1.out.free x
      obtain ⟨v0, hco⟩ : ∃ v, wr.cell? ⟨w.heap.size + 1, x, none⟩ = some v := ⟨_, L1.out.cell x (by rw [loopUpto_length]; exact htl)⟩
      have ET := hide eT
      have EC := hide eC
      unfold maxLen at r2
      clear htc hcc hrc r3 re hx hy eT eC HTC HC3 HC5 HROW HBD HTL hrl
      go_wp2
      go_roundw
      case rel =>
        refine ⟨i + 1, by omega, by go_num, ?_, gr_set L2.out _ _ (by simp)⟩
        show IArr _ _ ((loopUpto m part T css i).set (T.getD i 0) (-((css.getD i []).getD part 0)))
        rw [ET.out, EC.out]
        exact L1.out.set x (-y) _ (by first | rfl | go_num | simp)
      case measure => simp [intOf]; omega
    · obtain rfl : i = T.length := by omega
      have hfr := L1.out.free part
      obtain ⟨v0, hco⟩ : ∃ v, wr.cell? ⟨w.heap.size + 1, part, none⟩ = some v := ⟨_, L1.out.cell part (by rw [loopUpto_length]; exact hpart)⟩
      clear HTC HC3 HC5 HROW HBD HTL
      go_wp2
      go_ret
      exact ⟨w.heap.size + 1, rfl, L1.out.set part 1 _ rfl, gr_set L2.out _ _ (by simp), by omega⟩
end Go.Proofs.YtfhamfgcjdhmdaaDoor
