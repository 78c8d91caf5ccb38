/- Slices of texts that a call itself made: append touches no word, nor any row of fractions. -/
import Derived.Test.YtklkpkkjakllfaaGreatDoorXTc
import Derived.Test.YtklkpkkjakllfaaGreatDoorXFe
set_option linter.unusedVariables false
set_option linter.unusedSimpArgs false
set_option maxHeartbeats 4000000
set_option maxRecDepth 10000
namespace Go.Proofs.YtklkpkkjakllfaaGreatDoor
open Go.RowKit
theorem Tryz.infoQ : (Tryz.prog.info? 24).map (fun i => (i.zero, i.size, i.bytes)) = some (some (sv ⟨#[]⟩), 1, 16) := by kernel_rfl
def textsL (R : Nat → Rat) (i : Nat) : List ByteArray := (List.range i).map fun j => ⟨(qtext (R j)).toArray⟩
theorem textsL_length (R : Nat → Rat) (i : Nat) : (textsL R i).length = i := by simp [textsL]
theorem textsL_succ (R : Nat → Rat) (i : Nat) : textsL R (i + 1) = textsL R i ++ [⟨(qtext (R i)).toArray⟩] := by simp [textsL, List.range_succ]
def OwnT (w : World) (base : Nat) (v : Value) (xs : List ByteArray) : Prop := OwnG sv 24 w base v xs ∧ NoWv w v
theorem OwnT.keep0 {w w' : World} {base : Nat} {v : Value} {xs : List ByteArray} (h : OwnT w base v xs) (hg : w.grownBy w' none) : OwnT w' base v xs :=
  ⟨h.1.keep0 hg, fun k ek => (h.2 k ek).keep (h.1.fresh k ek).2 hg (by simp)⟩
theorem ownT_one {w : World} {s : ByteArray} {base : Nat} (hb : base ≤ w.heap.size) : OwnT (w.alloc (Obj.cells #[sv s] 24)) base (.slice (some ⟨w.heap.size, 0, none⟩) 1 1) [s] := by
  have hh := heap_alloc_new w (Obj.cells #[sv s] 24)
  refine ⟨⟨rfl, .inr ⟨w.heap.size, 1, #[sv s], rfl, hb, hh, Nat.le_refl _, by unfold maxLen; decide, rfl, rfl⟩⟩, fun k ek => ?_⟩
  simp only [Value.ownBlock, Option.some.injEq] at ek
  subst ek
  refine NoW.cells hh ?_
  intro u hu x
  simp at hu
  subst hu
  intro e
  cases e
theorem OwnT.apart {w : World} {base : Nat} {v : Value} {xs : List ByteArray} (h : OwnT w base v xs) (h0 : 0 < xs.length) {b n L : Nat} {R : Nat → Rat} (hr : FRow w b n R L) (hn : 0 < n) : some b ≠ v.ownBlock := by
  intro e
  obtain ⟨uo, ul, uc, vo, vl, vc, c0, _⟩ := hr.at 0 hn
  rcases h.1.2 with ⟨rfl, h1⟩ | ⟨g, cap, cur, rfl, hb, hh, h1, h2, h3, h4⟩
  · simp [Value.ownBlock] at e
  · simp only [Value.ownBlock, Option.some.injEq] at e
    subst e
    have h5 : (cur.toList.take (xs.length * 1))[0]? = (xs.map sv)[0]? := by rw [h4]
    rw [List.getElem?_take, if_pos (by omega)] at h5
    simp only [World.cell?, hh, Nat.zero_mul] at c0
    have c0' : cur[0]? = some (Value.bool (rB (R 0))) := c0
    rw [Array.getElem?_toList, c0'] at h5
    rw [List.getElem?_map, List.getElem?_eq_getElem h0] at h5
    simp at h5
theorem wpList_append_t {P : Program} (W : World) {ops : Array Oper} {rest : List Oper} {o : Oper} {a : Act} {Q : Exit → Act → World → Prop}
    (hg : o.guard = none) (s x : Operand) (t : TypeId) (ho : o.op = .call { callee := .builtin .append, args := #[s, x], argTypes := #[t, t] }) (base : Nat)
    (h1 : P.underlying t = some (.slice 24)) (hinfo : (P.info? 24).map (fun i => (i.zero, i.size, i.bytes)) = some (some (sv ⟨#[]⟩), 1, 16))
    (v : Value) (xs : List ByteArray) (hs : a.eval s = v) (hown : OwnT W base v xs) (b : Nat) (y : ByteArray) (hx : a.eval x = .slice (some ⟨b, 0, none⟩) 1 1) (hc : W.cell? ⟨b, 0, none⟩ = some (sv y))
    (hlen : xs.length ≤ 1000000) (hbase : base ≤ W.heap.size)
    (hK : ∀ ao cap w', OwnT w' base (.slice ao (xs.length + 1) cap) (xs ++ [y]) → W.grownBy w' v.ownBlock → WKept W w' → wpList P ops Q rest (a.put o.dst (.slice ao (xs.length + 1) cap)) w') : wpList P ops Q (o :: rest) a W := by
  obtain ⟨i, hi, hz0, hsz, hz2⟩ := info_parts hinfo
  obtain ⟨v', w', hr, h2, h3, h4, h5⟩ := run_append_nwf (P := P) W base t o.type 24 i _ 1 16 h1 hi hz0 hsz hz2 rfl (by decide)
    (fun j x hj => by
      obtain rfl : j = 0 := by omega
      intro e
      cases e)
    v xs.length (xs.map sv) hown.1 hown.2 (fun u hu x => by obtain ⟨u', _, rfl⟩ := List.mem_map.1 hu; intro e; cases e) ⟨b, 0, none⟩ 1 1 [sv y] rfl (by decide)
    (fun j u hj => by
      match j with
      | 0 =>
        simp only [List.getElem?_cons_zero, Option.some.injEq] at hj
        subst hj
        simpa [Addr.add] using hc
      | j + 1 => simp at hj)
    (fun u hu => by
      simp only [List.mem_singleton] at hu
      subst hu
      rfl)
    (fun u hu x => by
      simp only [List.mem_singleton] at hu
      subst hu
      intro e
      cases e) (by unfold maxLen; omega) (by omega) hbase
  have h6 : OwnT w' base v' (xs ++ [y]) := by
    refine ⟨?_, h4⟩
    unfold OwnG
    rw [List.length_append, List.map_append]
    exact h2
  obtain ⟨ao, cap, ev⟩ := h6.1.shape
  rw [List.length_append, List.length_singleton] at ev
  refine wpList_plain hg fun _ hK2 => ?_
  unfold Oper.wp execOp
  simp only [ho, resolve, invoke, builtin, Sem.run_bind, Sem.run_pure, Result.andThen_ok, List.map_toArray, List.map_cons, List.map_nil, hs, hx, hr]
  rw [ev] at h6 ⊢
  exact hK2 _ _ (hK ao cap w' h6 h3 h5)
theorem fit_mono {L L' : Nat} {q : Rat} (h : FitW L q) (hl : L ≤ L') : FitW L' q :=
  ⟨Nat.lt_of_lt_of_le h.1 (Nat.pow_le_pow_right (by decide) hl), Nat.lt_of_lt_of_le h.2 (Nat.pow_le_pow_right (by decide) hl)⟩
theorem rowK_zero {p : Nat → Rat} {n : Nat} : ∀ k j, n ≤ 2 * j + k → rowK (evP p n) (evP p (n - 1)) k j = 0
  | 0, j, h => by
    show evP p n j = 0
    unfold evP
    rw [if_neg (by omega)]
  | 1, j, h => by
    show evP p (n - 1) j = 0
    unfold evP
    rw [if_neg (by omega)]
  | k + 2, j, h => by
    show rowN (rowK _ _ k) (rowK _ _ (k + 1)) j = 0
    unfold rowN
    rw [rowK_zero k (j + 1) (by omega), rowK_zero (k + 1) (j + 1) (by omega)]
    grind
theorem second_at' (x : Value) (n T : Nat) (z : Int) (p : Nat → Rat) (L : Nat) (w : World) (hz : z = (T : Int) - 1) (hx : Rw w x n p L) (hT : T ≤ n) (hn : n ≤ 3000) :
    Calls Tryz.prog 37 #[x, .int .i64 z] w fun e w' => ∃ v, e = .returned v ∧ Rw w' v ((T + 1) / 2) (evP p T) L ∧ w.grownBy w' none := by
  subst hz
  exact second_at x n T p L w hx hT hn
theorem bytes_ext {x y : ByteArray} (h : x.toList = y.toList) : x = y := by
  rw [ByteArray.toList_eq, ByteArray.toList_eq] at h
  cases x
  cases y
  congr 1
  exact Array.ext' h
def EquR (W : World) (xs ys : List ByteArray) (v : Value) (wr : World) : Prop := ∃ i : Nat, i ≤ xs.length ∧ v = .int .i64 i ∧ (∀ j, j < i → xs[j]? = ys[j]?) ∧ W.grownBy wr none
theorem equalQ_at (v1 v2 : Value) (xs ys : List ByteArray) (w : World) (h1 : RowG sv w v1 xs) (h2 : RowG sv w v2 ys) (hl : xs.length ≤ 100000) (hl2 : ys.length ≤ 100000) :
    Calls Tryz.prog 16 #[v1, v2] w fun e w' => e = .returned (.bool (decide (xs = ys))) ∧ w.grownBy w' none := by
  obtain ⟨ao, cap, rfl, a1, a2, a3⟩ := h1
  obtain ⟨bo, cap2, rfl, b1, b2, b3⟩ := h2
  unfold maxLen at a2 b2
  have A3 := hide a3
  have B3 := hide b3
  clear a3 b3
  by_cases hlen : xs.length = ys.length
  · have HLEN := hide hlen
    have hneq : (((xs.length : Nat) : Int) == ((ys.length : Nat) : Int)) = true := by rw [hlen]; simp
    rw [← hlen]
    have hcc : xs.length ≤ cap2 := by omega
    clear hlen hneq
    go_enter Tryz.func16, Tryz.ntmps16
    go_wp2
    go_loopw [13] (fun v wr => Hid (EquR w xs ys v wr)) (fun v _ => xs.length - (intOf v).toNat)
    case atStart => exact ⟨0, by omega, rfl, fun j hj => by omega, gr_refl _ _⟩
    case round =>
      obtain ⟨i, hi, rfl, l1, l2⟩ := hrel.out
      have L1 := hide l1
      have L2 := hide l2
      clear l1 l2 hrel
      by_cases hlt : i < xs.length
      · have hlt2 : i < ys.length := by have := HLEN.out; omega
        obtain ⟨b, off, rfl, hb, ca⟩ := A3.out i hlt
        obtain ⟨b', off', rfl, hb', cb⟩ := B3.out i hlt2
        obtain ⟨x, hx⟩ : ∃ x, x = xs[i] := ⟨_, rfl⟩
        obtain ⟨y, hy⟩ : ∃ y, y = ys[i] := ⟨_, rfl⟩
        rw [← hx] at ca
        rw [← hy] at cb
        have c1 := L2.out.cell ca (by simp)
        have c2 := L2.out.cell cb (by simp)
        have HX := hide hx
        have HY := hide hy
        have hi1 : (0 : Int) ≤ (i : Int) := by omega
        have hi2 : (i : Int) < (xs.length : Int) := by omega
        clear ca cb hx hy
        by_cases hxy : x = y
        · subst hxy
          go_wp2
          go_region
          all_goals
            go_wp2
            go_roundw
            case rel =>
              refine ⟨i + 1, by omega, by go_num, fun j hj => ?_, by first | exact gr_none L2.out gr_d1 | exact gr_none L2.out (gr_d _) | exact L2.out⟩
              by_cases e : j = i
              · subst e
                rw [List.getElem?_eq_getElem hlt, List.getElem?_eq_getElem hlt2, ← HX.out, ← HY.out]
              · exact L1.out j (by omega)
            case measure => simp [intOf]; omega
        · have hne : (x.toList == y.toList) = false := beq_eq_false_iff_ne.2 (fun e => hxy (bytes_ext e))
          have HXY := hide hxy
          go_wp2
          go_region
          all_goals
            go_wp2
            go_ret
            refine ⟨?_, by first | exact gr_none L2.out gr_d1 | exact gr_none L2.out (gr_d _) | exact L2.out⟩
            have : xs ≠ ys := by
              intro e
              apply HXY.out
              rw [HX.out, HY.out]
              subst e
              rfl
            rw [decide_eq_false this]
            rfl
      · obtain rfl : i = xs.length := by omega
        go_wp2
        go_ret
        refine ⟨?_, L2.out⟩
        have : xs = ys := by
          apply List.ext_getElem?
          intro j
          by_cases hj : j < xs.length
          · exact L1.out j hj
          · rw [List.getElem?_eq_none (by omega), List.getElem?_eq_none (by have := HLEN.out; omega)]
        rw [decide_eq_true this]
        rfl
  · have hneq : (((xs.length : Nat) : Int) == ((ys.length : Nat) : Int)) = false := by
      apply beq_eq_false_iff_ne.2
      omega
    have hne : xs ≠ ys := fun e => hlen (by rw [e])
    rw [decide_eq_false hne]
    clear hlen hne
    go_enter Tryz.func16, Tryz.ntmps16
    go_wp2
    go_ret
    exact ⟨rfl, gr_refl _ _⟩
theorem rowG_three (w : World) (t : TypeId) (x y z : ByteArray) : RowG sv (w.alloc (Obj.cells #[.string x, .string y, .string z] t)) (.slice (some ⟨w.heap.size, 0, none⟩) 3 3) [x, y, z] := by
  refine ⟨_, 3, rfl, Nat.le_refl 3, by unfold maxLen; omega, fun i hi => ⟨w.heap.size, 0, rfl, by simp, ?_⟩⟩
  have hn := heap_alloc_new w (Obj.cells #[.string x, .string y, .string z] t)
  have hi3 : i < 3 := hi
  simp only [World.cell?, hn, Nat.zero_add]
  match i, hi3 with
  | 0, _ => rfl
  | 1, _ => rfl
  | 2, _ => rfl
theorem rowG_four (w : World) (t : TypeId) (x y z u : ByteArray) : RowG sv (w.alloc (Obj.cells #[.string x, .string y, .string z, .string u] t)) (.slice (some ⟨w.heap.size, 0, none⟩) 4 4) [x, y, z, u] := by
  refine ⟨_, 4, rfl, Nat.le_refl 4, by unfold maxLen; omega, fun i hi => ⟨w.heap.size, 0, rfl, by simp, ?_⟩⟩
  have hn := heap_alloc_new w (Obj.cells #[.string x, .string y, .string z, .string u] t)
  have hi3 : i < 4 := hi
  simp only [World.cell?, hn, Nat.zero_add]
  match i, hi3 with
  | 0, _ => rfl
  | 1, _ => rfl
  | 2, _ => rfl
  | 3, _ => rfl
end Go.Proofs.YtklkpkkjakllfaaGreatDoor
