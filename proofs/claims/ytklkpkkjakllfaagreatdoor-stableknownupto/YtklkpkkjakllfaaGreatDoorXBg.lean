/- Slices of bytes in memory that a call made itself. -/
import Derived.Test.YtklkpkkjakllfaaGreatDoorXBase
import Derived.Laws.AppendOwn
import Derived.Lib.UnsafeStr
import Derived.Lib.Walk
import Derived.Test.YtklkpkkjakllfaaGreatDoorXBe
import Derived.Test.YtklkpkkjakllfaaGreatDoorXBf
import Derived.Test.YtklkpkkjakllfaaGreatDoorXFe
import Derived.Deep.RegionHeld3
set_option linter.unusedVariables false
set_option linter.unusedSimpArgs false
set_option maxHeartbeats 4000000
set_option maxRecDepth 10000
namespace Go.Proofs.YtklkpkkjakllfaaGreatDoor
open Go.RowKit
def OwnB (w : World) (base : Nat) (v : Value) (l : List UInt8) : Prop := w.ownsRow base 5 1 v l.length (Lib.byteCells l)
theorem Tryz.infoU8 : (Tryz.prog.info? 5).map (fun i => (i.zero, i.size, i.bytes)) = some (some (.int .u8 0), 1, 1) := by kernel_rfl
theorem OwnB.nil (w : World) (base : Nat) : OwnB w base (.slice none 0 0) [] := World.ownsRow_nil _ _ _ _
theorem OwnB.shape {w : World} {base : Nat} {v : Value} {l : List UInt8} (h : OwnB w base v l) : ∃ ao cap, v = .slice ao l.length cap ∧ l.length ≤ cap ∧ cap ≤ 9223372036854775807 := by
  rcases h.2 with ⟨rfl, h0⟩ | ⟨g, cap, cur, rfl, hb, hh, h1, h2, h3, h4⟩
  · exact ⟨none, 0, by rw [h0], by omega, by omega⟩
  · exact ⟨_, cap, rfl, h1, by unfold maxLen at h2; omega⟩
theorem take_bytes_at {cur : Array Value} {l : List UInt8} (h : cur.toList.take (l.length * 1) = Lib.byteCells l) (i : Nat) (hi : i < l.length) : cur[i]? = some (.int .u8 (l[i].toNat : Nat)) := by
  have h2 : (cur.toList.take (l.length * 1))[i]? = (Lib.byteCells l)[i]? := by rw [h]
  rw [List.getElem?_take, if_pos (by omega)] at h2
  simpa [Lib.byteCells, hi] using h2
theorem OwnB.open {w : World} {base : Nat} {v : Value} {l : List UInt8} (h : OwnB w base v l) (h0 : 0 < l.length) : ∃ g cap, v = .slice (some ⟨g, 0, none⟩) l.length cap ∧ l.length ≤ cap ∧ cap ≤ 9223372036854775807 ∧ base ≤ g ∧ g < w.heap.size := by
  rcases h.2 with ⟨rfl, h1⟩ | ⟨g, cap, cur, rfl, hb, hh, h1, h2, h3, h4⟩
  · omega
  · exact ⟨g, cap, rfl, h1, by unfold maxLen at h2; omega, hb, (Array.getElem?_eq_some_iff.1 hh).1⟩
theorem OwnB.at {w : World} {base g cap : Nat} {l : List UInt8} (h : OwnB w base (.slice (some ⟨g, 0, none⟩) l.length cap) l) (i : Nat) (hi : i < l.length) :
    w.cell? ⟨g, i, none⟩ = some (.int .u8 (l[i].toNat : Nat)) ∧ w.frozen? ⟨g, i, none⟩ = false ∧
      ∀ (x : UInt8) (z : Int), z = (x.toNat : Int) → OwnB (w.setCell ⟨g, i, none⟩ (.int .u8 z)) base (.slice (some ⟨g, 0, none⟩) l.length cap) (l.set i x) := by
  rcases h.2 with ⟨h0, _⟩ | ⟨g', cap', cur, h0, hb, hh, h1, h2, h3, h4⟩
  · simp at h0
  · simp only [Value.slice.injEq, Option.some.injEq, Addr.mk.injEq, and_true, true_and] at h0
    obtain ⟨rfl, rfl⟩ := h0
    refine ⟨?_, ?_, ?_⟩
    · simp only [World.cell?, hh]
      exact take_bytes_at h4 i hi
    · simp [World.frozen?, hh]
    · intro x z hz
      refine ⟨by simp [Lib.byteCells], .inr ⟨g, cap, cur.setIfInBounds i (.int .u8 z), by simp, hb, ?_, by simpa using h1, h2, by simpa using h3, ?_⟩⟩
      · rw [heap_setCell_same w g i _ _ _ hh]
      · subst hz
        rw [Array.toList_setIfInBounds, List.length_set, List.take_set, h4]
        simp [Lib.byteCells, List.map_set]
theorem OwnB.keep {w w' : World} {base : Nat} {v : Value} {l : List UInt8} {row : Option Nat} (h : OwnB w base v l) (hg : w.grownBy w' row) (hne : ∀ k, row = some k → blockOf v ≠ some k) : OwnB w' base v l := by
  refine World.ownsRow.kept h hg ?_
  cases row with
  | none => cases hv : v.ownBlock <;> simp
  | some k =>
    right
    intro e
    refine hne k rfl ?_
    rw [← e]
    cases v <;> rfl
theorem OwnB.keep0 {w w' : World} {base : Nat} {v : Value} {l : List UInt8} (h : OwnB w base v l) (hg : w.grownBy w' none) : OwnB w' base v l := h.keep hg (fun _ e => by cases e)
theorem OwnB.alloc {w : World} {base : Nat} {v : Value} {l : List UInt8} (h : OwnB w base v l) (o : Obj) : OwnB (w.alloc o) base v l := World.ownsRow.alloc h o
theorem OwnB.fresh {w : World} {base : Nat} {v : Value} {l : List UInt8} (h : OwnB w base v l) : ∀ k, blockOf v = some k → base ≤ k ∧ k < w.heap.size := by
  intro k hk
  rcases h.2 with ⟨rfl, h0⟩ | ⟨g, cap, cur, rfl, hb, hh, h1, h2, h3, h4⟩
  · simp [blockOf] at hk
  · simp [blockOf] at hk
    subst hk
    exact ⟨hb, (Array.getElem?_eq_some_iff.1 hh).1⟩
theorem gr_own {w w1 w2 : World} {r : Option Nat} (h : w.grownBy w1 none) (k : w1.grownBy w2 r) (hb : ∀ b, r = some b → w.heap.size ≤ b) : w.grownBy w2 none :=
  gr_trans h k (fun _ _ e => e) (fun b hb' e => by have := hb b e.symm; omega)
theorem ownBlockB (v : Value) : v.ownBlock = blockOf v := by cases v <;> rfl
theorem wpList_append_byte (w : World) {ops : Array Oper} {rest : List Oper} {o : Oper} {a : Act} {Q : Exit → Act → World → Prop} (hg : o.guard = none) (x y : Operand) (hop : o.op = Op.call { callee := .builtin .append, args := #[x, y], argTypes := #[124, 124] }) (base : Nat) (v : Value) (l : List UInt8) (hx : a.eval x = v) (g : Nat) (z : Int) (c : UInt8) (hz : z = (c.toNat : Int)) (hy : a.eval y = .slice (some ⟨g, 0, none⟩) 1 1) (hcell : w.cell? ⟨g, 0, none⟩ = some (.int .u8 z)) (h : OwnB w base v l) (hl : l.length ≤ 10000000000000) (hb : base ≤ w.heap.size)
    (hK : ∀ v' w', OwnB w' base v' (l ++ [c]) → w.grownBy w' (blockOf v) → wpList Tryz.prog ops Q rest (a.put o.dst v') w') :
    wpList Tryz.prog ops Q (o :: rest) a w := by
  obtain ⟨i0, hi0, hz0, hz1, hz2⟩ := info_parts Tryz.infoU8
  refine wpList_append_own w hg x y 124 hop base 5 i0 (.int .u8 0) 1 1 Tryz.underlying124 hi0 hz0 hz1 hz2 rfl (by decide) v l.length (Lib.byteCells l) hx h ⟨g, 0, none⟩ 1 1 [.int .u8 z] hy rfl ?_ ?_ (by unfold maxLen; omega) (by omega) hb ?_
  · intro j u hj
    match j with
    | 0 =>
      simp only [List.getElem?_cons_zero, Option.some.injEq] at hj
      subst hj
      simpa [Addr.add] using hcell
    | j + 1 => simp at hj
  · intro u hu
    simp only [List.mem_singleton] at hu
    subst hu
    rfl
  · intro v' w' hown hgr _
    refine hK v' w' ?_ (by rw [← ownBlockB]; exact hgr)
    unfold OwnB
    rw [List.length_append, List.length_singleton]
    have e : Lib.byteCells (l ++ [c]) = Lib.byteCells l ++ [.int .u8 z] := by rw [hz]; simp [Lib.byteCells]
    rw [e]
    exact hown
theorem OwnB.string {w : World} {base : Nat} {v : Value} {l : List UInt8} (h : OwnB w base v l) (h0 : 0 < l.length) :
    (convert 124 9 v).run Tryz.prog w = .ok (.string ⟨l.toArray⟩) w := by
  obtain ⟨g, cap, rfl, _, _, _, _⟩ := h.open h0
  refine run_convert_bytes_back (P := Tryz.prog) w 124 9 5 ⟨g, 0, none⟩ cap l Tryz.underlying124 Tryz.underlying5 Tryz.underlying9 ?_
  intro j hj
  rw [show (⟨g, 0, none⟩ : Addr).add j = ⟨g, j, none⟩ from by simp [Addr.add]; exact Eq.symm]
  exact (h.at j hj).1
def swp (l : List UInt8) (i : Nat) : List UInt8 := (List.range l.length).map fun p => if p < i ∨ l.length < p + 1 + i then l.getD (l.length - 1 - p) 0 else l.getD p 0
theorem swp_length (l : List UInt8) (i : Nat) : (swp l i).length = l.length := by simp [swp]
theorem swp_get (l : List UInt8) (i p : Nat) (h : p < (swp l i).length) : (swp l i)[p] = if p < i ∨ l.length < p + 1 + i then l.getD (l.length - 1 - p) 0 else l.getD p 0 := by simp [swp]
theorem swp_zero (l : List UInt8) : swp l 0 = l := by
  apply List.ext_getElem (swp_length l 0)
  intro p h1 h2
  rw [swp_get, if_neg (by omega)]
  simp [List.getD, h2]
theorem swp_step (l : List UInt8) (i : Nat) (h : i + i + 1 < l.length) : ((swp l i).set i (l.getD (l.length - 1 - i) 0)).set (l.length - 1 - i) (l.getD i 0) = swp l (i + 1) := by
  apply List.ext_getElem (by simp [swp_length])
  intro p h1 h2
  rw [List.getElem_set, List.getElem_set, swp_get, swp_get]
  have hp : p < l.length := by simpa [swp_length] using h2
  by_cases e1 : l.length - 1 - i = p
  · rw [if_pos e1, if_pos (by omega), ← e1]
    congr 1
    omega
  · rw [if_neg e1]
    by_cases e2 : i = p
    · rw [if_pos e2, if_pos (by omega), e2]
    · rw [if_neg e2]
      by_cases e3 : p < i ∨ l.length < p + 1 + i
      · rw [if_pos e3, if_pos (by omega)]
      · rw [if_neg e3, if_neg (by omega)]
theorem swp_end (l : List UInt8) (i : Nat) (h : l.length ≤ i + i + 1) : swp l i = l.reverse := by
  apply List.ext_getElem (by simp [swp_length])
  intro p h1 h2
  have hp : p < l.length := by simpa [swp_length] using h1
  rw [swp_get, List.getElem_reverse]
  by_cases e : p < i ∨ l.length < p + 1 + i
  · rw [if_pos e]
    simp [List.getD, show l.length - 1 - p < l.length by omega]
  · rw [if_neg e]
    have e2 : l.length - 1 - p = p := by omega
    simp [List.getD, hp, e2]
def itext (z : Int) : List UInt8 := if z < 0 then 45 :: Lib.decDigits z.natAbs else Lib.decDigits z.natAbs
def dgB (r : Nat) : UInt8 := UInt8.ofNat (48 + r)
theorem byte_of (r : Nat) (h : r < 10) : (48 + (r : Int)) = ((dgB r).toNat : Int) := by
  unfold dgB
  rw [UInt8.toNat_ofNat']
  omega
def DigR (n m : Nat) (acc : List UInt8) : Prop := (m ≠ 0 → Lib.decDigits n = Lib.decDigits m ++ acc.reverse) ∧ (m = 0 → Lib.decDigits n = acc.reverse)
theorem DigR.step {n m : Nat} {acc : List UInt8} (h : DigR n m acc) (hm : m ≠ 0) : DigR n (m / 10) (acc ++ [dgB (m % 10)]) := by
  have h1 := h.1 hm
  unfold DigR dgB
  rw [List.reverse_append, List.reverse_singleton]
  refine ⟨fun h2 => ?_, fun h2 => ?_⟩
  · rw [h1, dec_step (by omega), List.append_assoc]
  · have h3 : m < 10 := by omega
    rw [h1, Lib.decDigits_one h3, Nat.mod_eq_of_lt h3]
theorem itext_pos (z : Int) : 0 < (itext z).length := by
  have := Lib.nDigits_pos z.natAbs
  rw [← Lib.decDigits_length] at this
  unfold itext
  split
  · simp
  · omega
def SwpR (w : World) (g c : Nat) (l : List UInt8) (i : Nat) (wr : World) : Prop := OwnB wr w.heap.size (.slice (some ⟨g, 0, none⟩) l.length c) (swp l i) ∧ w.grownBy wr none
theorem OwnB.swap {w : World} {base g c i j : Nat} {l : List UInt8} (h : OwnB w base (.slice (some ⟨g, 0, none⟩) l.length c) (swp l i)) (hi : i + i + 1 < l.length) (hj : j = l.length - 1 - i) :
    ∃ x y : UInt8, w.cell? ⟨g, i, none⟩ = some (.int .u8 (x.toNat : Nat)) ∧ w.cell? ⟨g, j, none⟩ = some (.int .u8 (y.toNat : Nat)) ∧ w.frozen? ⟨g, i, none⟩ = false ∧ w.frozen? ⟨g, j, none⟩ = false ∧
      OwnB ((w.setCell ⟨g, i, none⟩ (.int .u8 (y.toNat : Nat))).setCell ⟨g, j, none⟩ (.int .u8 (x.toNat : Nat))) base (.slice (some ⟨g, 0, none⟩) l.length c) (swp l (i + 1)) := by
  have hi2 : i < (swp l i).length := by rw [swp_length]; omega
  have hj2 : j < (swp l i).length := by rw [swp_length]; omega
  rw [← swp_length l i] at h
  obtain ⟨a1, a2, a3⟩ := h.at i hi2
  obtain ⟨b1, b2, b3⟩ := h.at j hj2
  have ex : (swp l i)[i] = l.getD i 0 := by rw [swp_get, if_neg (by omega)]
  have ey : (swp l i)[j] = l.getD j 0 := by rw [swp_get, if_neg (by omega)]
  refine ⟨(swp l i)[i], (swp l i)[j], a1, b1, a2, b2, ?_⟩
  have h2 := a3 (swp l i)[j] _ rfl
  rw [show (swp l i).length = ((swp l i).set i (swp l i)[j]).length from by simp] at h2
  obtain ⟨_, _, c3⟩ := h2.at j (by simpa using hj2)
  have h3 := c3 (swp l i)[i] _ rfl
  rw [show ((swp l i).set i (swp l i)[j]).length = l.length from by simp [swp_length]] at h3
  have e := swp_step l i hi
  rw [← hj] at e
  rw [ey, ex] at h3 ⊢
  rw [e] at h3
  exact h3
def TxtR (w : World) (n L : Nat) (k : Nat) (bv av : Value) (wr : World) : Prop :=
  ∃ (m : Nat) (acc : List UInt8), OwnB wr w.heap.size bv acc ∧ Num wr av m L ∧ DigR n m acc ∧ w.grownBy wr none ∧ m = k
theorem DigR.len {n m : Nat} {acc : List UInt8} (h : DigR n m acc) : acc.length ≤ Lib.nDigits n := by
  rw [← Lib.decDigits_length]
  by_cases hm : m = 0
  · rw [h.2 hm]; simp
  · rw [h.1 hm]; simp
theorem digits_le {n L : Nat} (hL : 0 < L) (h : n < 4294967296 ^ L) : Lib.nDigits n ≤ 10 * L := by
  refine nDigits_le (by omega) (Nat.lt_of_lt_of_le h ?_)
  rw [Nat.pow_mul]
  exact Nat.pow_le_pow_left (by decide) L
theorem num_lt {w : World} {v : Value} {n L : Nat} (h : Num w v n L) : n < 4294967296 ^ L := by
  obtain ⟨xs, h1, h2, h3, h4⟩ := h
  have := val_lt h1.sm
  rw [h3] at this
  exact Nat.lt_of_lt_of_le this (Nat.pow_le_pow_right (by decide) h4)
theorem intText_at (bx ox : Nat) (z : Int) (L : Nat) (w : World) (h : IntAt w bx ox z L) (hL : L ≤ 500000000000) :
    Calls Tryz.prog 147 #[.pointer (some ⟨bx, ox, none⟩), .int .i64 10] w fun e w' => e = .returned (.string ⟨(itext z).toArray⟩) ∧ w.grownBy w' none := by
  obtain ⟨neg, v, h1, h2, h3, h4⟩ := h
  obtain ⟨ao, l, ca, rfl, hl, _, hc1, hc2, _, _⟩ := num_zero h2
  have c0 := h1.c0
  have c1 := h1.c1
  have hnil : ∀ W, (binOp .eql 55 (.pointer (some ⟨bx, ox, none⟩)) (.pointer none)).run Tryz.prog W = .ok (.bool false) W := fun W => by kernel_rfl
  by_cases hz : z = 0
  · have hl0 : l = 0 := hl.2 (by omega)
    subst hl0 hz
    clear hl h1 h2 h3 h4
    go_enter Tryz.func147, Tryz.ntmps147
    go_wp2
    go_ret
    refine ⟨?_, gr_refl _ _⟩
    rw [show itext 0 = [48] from by simp [itext, Lib.decDigits_one]]
    rfl
  · have hl0 : 0 < l := by
      rcases Nat.eq_zero_or_pos l with e | e
      · have := hl.1 e; omega
      · exact e
    have hl1 : ((l : Int) == 0) = false := by simp; omega
    obtain ⟨n, hn⟩ : ∃ n, n = z.natAbs := ⟨_, rfl⟩
    have hn0 : 0 < n := by omega
    rw [← hn] at h2
    have HB := hide h1
    have HN := hide h2
    have H3 := hide h3
    have HNZ := hide hn
    clear hl h1 h2 h3 h4 hn
    go_enter Tryz.func147, Tryz.ntmps147
    go_wp2_with fail
    refine (twin_num _ n L _ HN.out (by omega)).mono ?_
    rintro e w1 ⟨av, rfl, a1, a2, a3⟩
    obtain ⟨ao1, l1, ca1, rfl, hll, _, hcc1, hcc2, _, _⟩ := num_zero a1
    have A1 := hide a1
    have A2 := hide a2
    have hnd : Lib.nDigits n ≤ 10 * L := by
      have hlt := num_lt a1
      refine digits_le ?_ hlt
      rcases Nat.eq_zero_or_pos L with e | e
      · subst e; simp at hlt; omega
      · exact e
    clear a1 a2 a3 hll c0 c1
    go_wp2
    go_loopg [5, 6] n (fun k bv av wr => Hid (TxtR w n L k bv av wr))
    case atStart => exact ⟨n, [], OwnB.nil _ _, A1.out, ⟨fun _ => by simp, fun e => by omega⟩, A2.out, rfl⟩
    case round =>
      obtain ⟨k, acc, r1, r2, r3, r4, rfl⟩ := hrel.out
      have hacc := r3.len
      obtain ⟨bo, bc, rfl, hbc1, hbc2⟩ := r1.shape
      obtain ⟨ao2, l2, ca2, rfl, hl2, _, hd1, hd2, _, _⟩ := num_zero r2
      have R1 := hide r1
      have R2 := hide r2
      have R3 := hide r3
      have R4 := hide r4
      clear r1 r2 r3 r4 hrel
      by_cases hk : k = 0
      · obtain rfl : l2 = 0 := hl2.2 hk
        subst hk
        have HD := hide (R3.out.2 rfl)
        clear hl2
        have cb0 := HB.out.keep0 R4.out
        have c0 := cb0.c0
        clear cb0
        by_cases hneg : neg = true
        · subst hneg
          have hown := R1.out.alloc (Obj.cells #[Value.int IntKind.u8 45] 5)
          have hcell : (wr.alloc (Obj.cells #[Value.int IntKind.u8 45] 5)).cell? ⟨wr.heap.size, 0, none⟩ = some (.int .u8 45) := by simp
          have HC := hide hcell
          have HO := hide hown
          have hbs : w.heap.size ≤ (wr.alloc (Obj.cells #[Value.int IntKind.u8 45] 5)).heap.size := by have := R4.out.size; simp; omega
          have HBS := hide hbs
          clear hcell hown hbs
          go_wp2_with (at_builtin; refine wpList_append_byte _ rfl _ _ rfl w.heap.size _ acc rfl wr.heap.size _ 45 rfl rfl HC.out HO.out (by omega) HBS.out ?_)
          intro bv' w3 o1 o2
          have O1 := hide o1
          have G3 := hide (gr_own (gr_none R4.out (gr_alloc (gr_refl _ _) _)) o2 (fun b e => (R1.out.fresh b e).1))
          clear o1 o2
          obtain ⟨l0, hl0⟩ : ∃ l0, l0 = (acc ++ [45]) := ⟨_, rfl⟩
          have HSW : Hid (l0.reverse = itext z) := by
            show _ = _
            rw [hl0]
            rw [List.reverse_append, ← HD.out, HNZ.out]
            have hzn : z < 0 := by simpa using H3.out.symm
            simp [itext, hzn]
          have hal : 0 < l0.length := by
            have h1 := congrArg List.length HSW.out
            rw [List.length_reverse] at h1
            have h2 := itext_pos z
            omega
          have hlb : l0.length ≤ 10 * L + 1 := by rw [hl0]; simp; omega
          rw [← hl0] at O1
          clear hl0
          obtain ⟨gb, cb, rfl, hcb1, hcb2, hgb1, hgb2⟩ := O1.out.open hal
          go_wp2
          go_loopw [8, 9] (fun iv jv w5 => ∃ i : Nat, i + i ≤ l0.length + 1 ∧ iv = .int .i64 (i : Int) ∧ jv = .int .i64 ((l0.length : Int) - 1 - i) ∧ Hid (SwpR w gb cb l0 i w5)) (fun iv _ _ => l0.length - (intOf iv).toNat)
          case atStart => exact ⟨0, by omega, rfl, by go_num, by rw [SwpR, swp_zero]; exact ⟨O1.out, G3.out⟩⟩
          case round =>
            obtain ⟨i, hi, rfl, rfl, HI⟩ := hrel
            by_cases hlt : i + i + 1 < l0.length
            · obtain ⟨j, hj⟩ : ∃ j, j = l0.length - 1 - i := ⟨_, rfl⟩
              have hje : ((l0.length : Int) - 1 - i) = (j : Int) := by omega
              obtain ⟨x, y, x1, y1, x2, y2, st⟩ := HI.out.1.swap hlt hj
              have ST := hide st
              have G5 := hide HI.out.2
              have HJ := hide hj
              have hj1 : i < j := by omega
              have hj2 : j < l0.length := by omega
              have hj3 : i < l0.length := by omega
              rw [hje]
              clear st hj hje HI O1
              go_wp2
              go_roundw
              case rel =>
                have hj := HJ.out
                exact ⟨i + 1, by omega, by go_num, by go_num, ST.out, gr_set (gr_set G5.out _ _ (by simp; omega)) _ _ (by simp; omega)⟩
              case measure => simp [intOf]; omega
            · have hcv := HI.out.1.string (by rw [swp_length]; exact hal)
              rw [swp_end l0 i (by omega), HSW.out] at hcv
              have G5 := hide HI.out.2
              clear HI O1
              go_wp2
              go_ret
              exact ⟨rfl, G5.out⟩
        · obtain rfl : neg = false := by simpa using hneg
          clear hneg
          have O1 := hide R1.out
          have G3 := hide R4.out
          have HSW : Hid (acc.reverse = itext z) := by
            show _ = _
            rw [← HD.out, HNZ.out]
            have hzn : ¬ z < 0 := by simpa using H3.out.symm
            simp [itext, hzn]
          have hal : 0 < acc.length := by
            have h1 := congrArg List.length HSW.out
            rw [List.length_reverse] at h1
            have h2 := itext_pos z
            omega
          have hlb : acc.length ≤ 10 * L + 1 := by omega
          obtain ⟨gb, cb, eb, hcb1, hcb2, hgb1, hgb2⟩ := O1.out.open hal
          simp only [Value.slice.injEq, true_and] at eb
          obtain ⟨rfl, rfl⟩ := eb
          have hcbc : bc = bc := rfl
          go_wp2
          go_loopw [8, 9] (fun iv jv w5 => ∃ i : Nat, i + i ≤ acc.length + 1 ∧ iv = .int .i64 (i : Int) ∧ jv = .int .i64 ((acc.length : Int) - 1 - i) ∧ Hid (SwpR w gb bc acc i w5)) (fun iv _ _ => acc.length - (intOf iv).toNat)
          case atStart => exact ⟨0, by omega, rfl, by go_num, by rw [SwpR, swp_zero]; exact ⟨O1.out, G3.out⟩⟩
          case round =>
            obtain ⟨i, hi, rfl, rfl, HI⟩ := hrel
            by_cases hlt : i + i + 1 < acc.length
            · obtain ⟨j, hj⟩ : ∃ j, j = acc.length - 1 - i := ⟨_, rfl⟩
              have hje : ((acc.length : Int) - 1 - i) = (j : Int) := by omega
              obtain ⟨x, y, x1, y1, x2, y2, st⟩ := HI.out.1.swap hlt hj
              have ST := hide st
              have G5 := hide HI.out.2
              have HJ := hide hj
              have hj1 : i < j := by omega
              have hj2 : j < acc.length := by omega
              have hj3 : i < acc.length := by omega
              rw [hje]
              clear st hj hje HI O1
              go_wp2
              go_roundw
              case rel =>
                have hj := HJ.out
                exact ⟨i + 1, by omega, by go_num, by go_num, ST.out, gr_set (gr_set G5.out _ _ (by simp; omega)) _ _ (by simp; omega)⟩
              case measure => simp [intOf]; omega
            · have hcv := HI.out.1.string (by rw [swp_length]; exact hal)
              rw [swp_end acc i (by omega), HSW.out] at hcv
              have G5 := hide HI.out.2
              clear HI O1
              go_wp2
              go_ret
              exact ⟨rfl, G5.out⟩
      · have hl3 : 0 < l2 := by
          rcases Nat.eq_zero_or_pos l2 with e | e
          · exact absurd (hl2.1 e) hk
          · exact e
        clear hl2
        go_wp2_with fail
        refine (small_num _ k L 10 _ R2.out (by omega) (by omega) (by omega)).mono ?_
        rintro e w2 ⟨v', r, rfl, hr, s1, s2, s3⟩
        obtain ⟨ao3, l3, ca3, rfl, hl4, _, he1, he2, _, _⟩ := num_zero s1
        have hr10 : r < 10 := by omega
        have HR := hide hr
        have S1 := hide s1
        have S2 := hide s2
        have S3 := hide s3
        clear hr s1 s2 s3 hl4
        have hri : (r : Int) < 10 := by omega
        have hu8 : (48 + (r : Int)) = ((dgB r).toNat : Int) := byte_of r hr10
        have hcell : (w2.alloc (Obj.cells #[Value.int IntKind.u8 (48 + (r : Int))] 5)).cell? ⟨w2.heap.size, 0, none⟩ = some (.int .u8 (48 + (r : Int))) := by simp
        have hown := (R1.out.keep0 S2.out).alloc (Obj.cells #[Value.int IntKind.u8 (48 + (r : Int))] 5)
        have hbs : w.heap.size ≤ (w2.alloc (Obj.cells #[Value.int IntKind.u8 (48 + (r : Int))] 5)).heap.size := by have := R4.out.size; have := S2.out.size; simp; omega
        have HU := hide hu8
        have HC := hide hcell
        have HO := hide hown
        have HBS := hide hbs
        clear hu8 hcell hown hbs
        go_wp2_with (at_builtin; refine wpList_append_byte _ rfl _ _ rfl w.heap.size _ acc rfl w2.heap.size _ (dgB r) HU.out rfl HC.out HO.out (by omega) HBS.out ?_)
        intro bv' w3 o1 o2
        obtain ⟨bo3, bc3, rfl, _, _⟩ := o1.shape
        have O1 := hide o1
        have O2 := hide o2
        clear o1 o2
        go_wp2
        go_roundg (k / 10)
        case measure => omega
        case rel =>
          refine ⟨k / 10, _, O1.out, ?_, ?_, ?_, rfl⟩
          · refine (S1.out.keep0 (gr_alloc (gr_refl _ _) _)).keep O2.out ?_
            intro j e h2
            have h3 := S3.out j h2
            have h4 := (R1.out.fresh j e).2
            omega
          · rw [HR.out]
            exact R3.out.step hk
          · exact gr_own (gr_none R4.out (gr_none S2.out (gr_alloc (gr_refl _ _) _))) O2.out (fun b e => (R1.out.fresh b e).1)
theorem intCmp_at (bx ox bY oY : Nat) (x y L M : Nat) (w : World) (hX : IntAt w bx ox (x : Int) L) (hY : IntAt w bY oY (y : Int) M) :
    Calls Tryz.prog 146 #[.pointer (some ⟨bx, ox, none⟩), .pointer (some ⟨bY, oY, none⟩)] w fun e w' => e = .returned (.int .i64 (ord x y)) ∧ w.grownBy w' none := by
  obtain ⟨nx, vx, x1, x2, x3, x4⟩ := hX
  obtain ⟨ny, vy, y1, y2, y3, y4⟩ := hY
  have ex : nx = false := by rw [x3]; exact decide_eq_false (by omega)
  have ey : ny = false := by rw [y3]; exact decide_eq_false (by omega)
  subst ex ey
  rw [Int.natAbs_natCast] at x2 y2
  obtain ⟨xo, xl, xc, rfl, _, _, _, _, _, _⟩ := num_zero x2
  obtain ⟨yo, yl, yc, rfl, _, _, _, _, _, _⟩ := num_zero y2
  have X2 := hide x2
  have Y2 := hide y2
  have c0 := x1.c0
  have c1 := x1.c1
  have d0 := y1.c0
  have d1 := y1.c1
  clear x1 x2 x3 x4 y1 y2 y3 y4
  go_enter Tryz.func146, Tryz.ntmps146
  go_wp2
  go_quiet (fail)
  go_wp2
  go_region_with (go_at_call 133; refine (cmp_num _ _ x y L M _ (X2.out.keep0 (by first | exact gr_refl _ _ | (refine gr_drewN ?_ _; first | exact gr_refl _ _ | exact gr_drewN (gr_refl _ _) _))) (Y2.out.keep0 (by first | exact gr_refl _ _ | (refine gr_drewN ?_ _; first | exact gr_refl _ _ | exact gr_drewN (gr_refl _ _) _)))).mono ?_; rintro e w2 ⟨rfl, qq, rfl⟩)
  all_goals
    go_wp2
    go_ret
    exact ⟨rfl, by repeat (first | exact gr_refl _ _ | refine gr_drewN ?_ _)⟩
theorem ord_one (n : Nat) (h : 0 < n) : (ord n 1 == 0) = decide (n = 1) := by
  unfold ord
  by_cases e : n = 1
  · subst e; rfl
  · rw [if_neg (by omega), if_neg e]
    simp [e]
theorem isInt_at (b : Nat) (q : Rat) (L : Nat) (w : World) (h : RQ w b q L) :
    Calls Tryz.prog 108 #[.pointer (some ⟨b, 0, none⟩)] w fun e w' => e = .returned (.bool (decide (q.den = 1))) ∧ w.grownBy w' none := by
  have H := hide h
  clear h
  go_enter Tryz.func108, Tryz.ntmps108
  go_wp2_with fail
  refine (den_at b _ _ L _ H.out).mono ?_
  rintro e w1 ⟨rfl, hw1⟩
  rw [hw1]
  clear hw1
  go_wp2_with fail
  refine (newInt_at 1 _ (by omega) (by omega)).mono ?_
  rintro e w2 ⟨rfl, a1, a2, a3⟩
  have A1 := hide a1
  have A2 := hide a2
  clear a1 a2 a3
  go_wp2_with fail
  refine (intCmp_at b 2 w.heap.size 0 q.den 1 L 2 _ (H.out.2.1.keep0 A1.out) A2.out).mono ?_
  rintro e w3 ⟨rfl, b1⟩
  have B1 := hide (gr_none A1.out b1)
  have ho := ord_one q.den q.den_pos
  clear b1
  generalize ord q.den 1 = oo at ho ⊢
  have HO := hide ho
  clear ho
  go_wp2
  go_ret
  refine ⟨?_, B1.out⟩
  rw [← HO.out]
  rfl
theorem denom_at (b : Nat) (q : Rat) (L : Nat) (w : World) (h : RQ w b q L) (hL : L ≤ 4000000000000) :
    Calls Tryz.prog 111 #[.pointer (some ⟨b, 0, none⟩)] w fun e w' => ∃ c, e = .returned (.pointer (some ⟨c, 0, none⟩)) ∧ IntAt w' c 0 (q.den : Int) L ∧ w.grownBy w' none := by
  have H := hide h
  clear h
  go_enter Tryz.func111, Tryz.ntmps111
  go_wp2_with fail
  have g1 := gr_alloc (gr_refl w none) (.cells #[.bool false, .slice none 0 0] 52)
  have H1 := hide (H.out.keep0 g1)
  refine (den_at b _ _ L _ H1.out).mono ?_
  rintro e w1 ⟨rfl, hw1⟩
  rw [hw1]
  clear hw1
  go_wp2_with fail
  refine (set_at w.heap.size 0 b 2 false (.slice none 0 0) (q.den : Int) L _ (newBox w) H1.out.2.1 (by omega)).mono ?_
  rintro e w2 ⟨rfl, k1, k2, k3⟩
  have G := hide (gr_of_put g1 k1 (Nat.le_refl _))
  have K2 := hide k2
  clear k1 k2 k3 g1
  go_wp2
  go_ret
  exact ⟨_, rfl, K2.out, G.out⟩
theorem intString_at (b o : Nat) (z : Int) (L : Nat) (w : World) (h : IntAt w b o z L) (hL : L ≤ 500000000000) :
    Calls Tryz.prog 110 #[.pointer (some ⟨b, o, none⟩)] w fun e w' => e = .returned (.string ⟨(itext z).toArray⟩) ∧ w.grownBy w' none := by
  have H := hide h
  clear h
  go_enter Tryz.func110, Tryz.ntmps110
  go_wp2_with fail
  refine (intText_at b o z L _ H.out hL).mono ?_
  rintro e w1 ⟨rfl, g1⟩
  have G := hide g1
  clear g1
  go_wp2
  go_ret
  exact ⟨rfl, G.out⟩
theorem num_at (b : Nat) (q : Rat) (L : Nat) (w : World) (h : RQ w b q L) :
    Calls Tryz.prog 109 #[.pointer (some ⟨b, 0, none⟩)] w fun e w' => e = .returned (.pointer (some ⟨b, 0, none⟩)) ∧ w' = w := by
  obtain ⟨n1, v1, b1, _⟩ := h.1
  have c0 := b1.c0
  clear b1 h
  go_enter Tryz.func109, Tryz.ntmps109
  go_wp2
  go_ret
  exact ⟨rfl, rfl⟩
theorem itext_nat (n : Nat) : itext (n : Int) = Lib.decDigits n := by
  unfold itext
  rw [if_neg (by omega), Int.natAbs_natCast]
theorem qtext_eq (q : Rat) : qtext q = itext q.num ++ (if q.den = 1 then [] else [47] ++ itext (q.den : Int)) := by
  rw [itext_nat]
  unfold qtext itext rB rN
  by_cases h : q.num < 0
  · simp [h]
  · simp [h]
theorem itext_len {w : World} {b o : Nat} {z : Int} {L : Nat} (h : IntAt w b o z L) (hL : L ≤ 100000000000) : (itext z).length ≤ 1000000000002 := by
  obtain ⟨_, _, _, h2, _⟩ := h
  have h3 := num_lt h2
  have h4 : (Lib.decDigits z.natAbs).length ≤ 1000000000001 := by
    rw [Lib.decDigits_length]
    rcases Nat.eq_zero_or_pos L with e | e
    · subst e
      have : z.natAbs = 0 := by simpa using h3
      rw [this, Lib.nDigits_small (by decide)]
      omega
    · have := digits_le e h3
      omega
  unfold itext
  split
  · simp; omega
  · omega
theorem rT_at (b : Nat) (q : Rat) (L : Nat) (w : World) (h : RQ w b q L) (hL : L ≤ 100000000000) :
    Calls Tryz.prog 74 #[.pointer (some ⟨b, 0, none⟩)] w fun e w' => e = .returned (.string ⟨(qtext q).toArray⟩) ∧ w.grownBy w' none := by
  have H := hide h
  have hl1 := itext_len h.1 hL
  have hl2 := itext_len h.2.1 hL
  obtain ⟨A, hA⟩ : ∃ l, l = itext q.num := ⟨_, rfl⟩
  obtain ⟨B, hB⟩ : ∃ l, l = itext (q.den : Int) := ⟨_, rfl⟩
  have HQ : Hid (qtext q = A ++ (if q.den = 1 then [] else [47] ++ B)) := by show _ = _; rw [hA, hB]; exact qtext_eq q
  rw [← hA] at hl1
  rw [← hB] at hl2
  have HA := hide hA
  have HB := hide hB
  clear h hA hB
  go_enter Tryz.func74, Tryz.ntmps74
  go_wp2_with fail
  refine (isInt_at b q L _ H.out).mono ?_
  rintro e w1 ⟨rfl, g1⟩
  have G1 := hide g1
  have H1 := hide (H.out.keep0 g1)
  clear g1
  by_cases hd : q.den = 1
  · rw [decide_eq_true hd]
    have HQ2 := HQ.out
    rw [if_pos hd, List.append_nil] at HQ2
    have HQ3 := hide HQ2
    clear HQ2 HQ hd
    go_wp2_with fail
    refine (num_at b q L _ H1.out).mono ?_
    rintro e wn ⟨rfl, hwn⟩
    rw [hwn]
    clear hwn
    go_wp2_with fail
    refine (intString_at b 0 q.num L _ H1.out.1 (by omega)).mono ?_
    rintro e w2 ⟨rfl, g2⟩
    have G2 := hide (gr_none G1.out g2)
    clear g2
    rw [← HA.out]
    go_wp2
    go_ret
    rw [HQ3.out]
    exact ⟨rfl, G2.out⟩
  · rw [decide_eq_false hd]
    have HQ2 := HQ.out
    rw [if_neg hd] at HQ2
    have HQ3 := hide HQ2
    clear HQ2 HQ hd
    go_wp2_with fail
    refine (num_at b q L _ H1.out).mono ?_
    rintro e wn ⟨rfl, hwn⟩
    rw [hwn]
    clear hwn
    go_wp2_with fail
    refine (intString_at b 0 q.num L _ H1.out.1 (by omega)).mono ?_
    rintro e w2 ⟨rfl, g2⟩
    have G2 := hide (gr_none G1.out g2)
    have H2 := hide (H1.out.keep0 g2)
    clear g2
    rw [← HA.out]
    go_wp2_with fail
    refine (denom_at b q L _ H2.out (by omega)).mono ?_
    rintro e w3 ⟨c, rfl, c1, c2⟩
    have C1 := hide c1
    have G3 := hide (gr_none G2.out c2)
    clear c1 c2
    go_wp2_with fail
    refine (intString_at c 0 (q.den : Int) L _ C1.out (by omega)).mono ?_
    rintro e w4 ⟨rfl, g4⟩
    have G4 := hide (gr_none G3.out g4)
    clear g4
    rw [← HB.out]
    go_wp2
    go_ret
    rw [HQ3.out]
    refine ⟨?_, G4.out⟩
    first | rfl | (simp; apply ByteArray.ext; simp [ByteArray.data_append])
theorem rOf_at (s : ByteArray) (m : Int) (w : World) (hs : s.size ≤ 1000000000) (hml : w.cell? ⟨0, 0, none⟩ = some (.int .i64 m)) :
    Calls Tryz.prog 5 #[.string s] w fun e w' => ∃ b, e = .returned (.pointer (some ⟨b, 0, none⟩)) ∧ w.grownBy w' none ∧ (RQ w' b (ofR s.data.toList) (3 * s.size + 8) ∨ (ofR s.data.toList = 0 ∧ RNil w' b (3 * s.size + 8))) := by
  refine (refOf_at s m w (by omega) hml).mono ?_
  rintro e w' ⟨b, rfl, h1, h2, h3, h4⟩
  refine ⟨b, rfl, h1, ?_⟩
  have hq := ofQ_R s.data.toList
  have e1 : sg (ofQ s.data.toList).1 (ofQ s.data.toList).2.1 = (ofR s.data.toList).num := by rw [hq]; exact rat_sgn _
  have e2 : (ofQ s.data.toList).2.2 = (ofR s.data.toList).den := by rw [hq]
  rw [e1] at h3 h4
  rw [e2] at h4
  rcases h4 with h4 | ⟨h4, h5⟩
  · exact .inl h4
  · right
    rw [hq] at h4
    simp only [Prod.mk.injEq] at h4
    have hn : (ofR s.data.toList).num = 0 := by
      have := h4.2.1
      unfold rN at this
      omega
    have h0 : ofR s.data.toList = 0 := Rat.num_eq_zero.1 hn
    rw [hn] at h3
    exact ⟨h0, h3, h5⟩
theorem isInt_nil (b L : Nat) (w : World) (h : RNil w b L) :
    Calls Tryz.prog 108 #[.pointer (some ⟨b, 0, none⟩)] w fun e w' => e = .returned (.bool true) ∧ w.grownBy w' none := by
  have H := hide h
  clear h
  have ho : (ord 1 1 == 0) = true := by rw [ord_eq]; rfl
  go_enter Tryz.func108, Tryz.ntmps108
  go_wp2_with fail
  refine (den_nil b L _ H.out).mono ?_
  rintro e w1 ⟨rfl, d1, d2, d3⟩
  have D1 := hide d1
  have D2 : Hid (IntAt w1 w.heap.size 0 ((1 : Nat) : Int) 2) := d2
  clear d1 d2 d3
  go_wp2_with fail
  refine (newInt_at 1 _ (by omega) (by omega)).mono ?_
  rintro e w2 ⟨rfl, a1, a2, a3⟩
  have A1 := hide a1
  have A2 : Hid (IntAt w2 w1.heap.size 0 ((1 : Nat) : Int) 2) := a2
  clear a1 a2 a3
  go_wp2_with fail
  refine (intCmp_at w.heap.size 0 w1.heap.size 0 1 1 2 2 _ (D2.out.keep0 A1.out) A2.out).mono ?_
  rintro e w3 ⟨rfl, b1⟩
  have B1 := hide (gr_none D1.out (gr_none A1.out b1))
  clear b1
  generalize ord 1 1 = oo at ho ⊢
  go_wp2
  go_ret
  exact ⟨by first | rfl | rw [ho], B1.out⟩
theorem numNil_at (b L : Nat) (w : World) (h : RNil w b L) :
    Calls Tryz.prog 109 #[.pointer (some ⟨b, 0, none⟩)] w fun e w' => e = .returned (.pointer (some ⟨b, 0, none⟩)) ∧ w' = w := by
  obtain ⟨n1, v1, b1, _⟩ := h.1
  have c0 := b1.c0
  clear b1 h
  go_enter Tryz.func109, Tryz.ntmps109
  go_wp2
  go_ret
  exact ⟨rfl, rfl⟩
theorem rT_nil (b L : Nat) (w : World) (h : RNil w b L) (hL : L ≤ 100000000000) :
    Calls Tryz.prog 74 #[.pointer (some ⟨b, 0, none⟩)] w fun e w' => e = .returned (.string ⟨(qtext 0).toArray⟩) ∧ w.grownBy w' none := by
  have H := hide h
  clear h
  have hq : Hid (qtext 0 = itext 0) := by show _ = _; rw [qtext_eq, if_pos (by rfl), List.append_nil]; rfl
  rw [hq.out]
  have hl1 := itext_len H.out.1 hL
  obtain ⟨A, hA⟩ : ∃ l, l = itext 0 := ⟨_, rfl⟩
  rw [← hA] at hl1 ⊢
  have HA := hide hA
  clear hA
  go_enter Tryz.func74, Tryz.ntmps74
  go_wp2_with fail
  refine (isInt_nil b L _ H.out).mono ?_
  rintro e w1 ⟨rfl, g1⟩
  have G1 := hide g1
  have H1 := hide (H.out.keep0 g1)
  clear g1
  go_wp2_with fail
  refine (numNil_at b L _ H1.out).mono ?_
  rintro e wn ⟨rfl, hwn⟩
  rw [hwn]
  clear hwn
  go_wp2_with fail
  refine (intString_at b 0 0 L _ H1.out.1 (by omega)).mono ?_
  rintro e w2 ⟨rfl, g2⟩
  have G2 := hide (gr_none G1.out g2)
  clear g2
  rw [← HA.out]
  go_wp2
  go_ret
  exact ⟨rfl, G2.out⟩
end Go.Proofs.YtklkpkkjakllfaaGreatDoor
