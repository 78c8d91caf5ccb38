/- Slices of texts that a call itself made: append touches no word, nor any row of fractions. -/
import Derived.Test.YtbihhkcgiepgaaeGreatDoorMTa
import Derived.Test.YtbihhkcgiepgaaeGreatDoorMPb
import Derived.Test.YtbihhkcgiepgaaeGreatDoorMFe
namespace Go.Proofs.YtbihhkcgiepgaaeGreatDoor
open Go.RowKit
set_option linter.unusedVariables false
set_option linter.unusedSimpArgs false

theorem Tryz.infoQ : (Tryz.prog.info? 24).map (fun i => (i.zero, i.size, i.bytes)) = some (some (sv ⟨#[]⟩), 1, 16) := by kernel_rfl

/-- The texts of the first i. -/
def textsL (R : Nat → Rat) (i : Nat) : List ByteArray := (List.range i).map fun j => ⟨(qtext (R j)).toArray⟩

theorem textsL_length (R : Nat → Rat) (i : Nat) : (textsL R i).length = i := by simp [textsL]
theorem textsL_succ (R : Nat → Rat) (i : Nat) : textsL R (i + 1) = textsL R i ++ [⟨(qtext (R i)).toArray⟩] := by simp [textsL, List.range_succ]

/-- A slice of texts that the call itself made. -/
def OwnT (w : World) (base : Nat) (v : Value) (xs : List ByteArray) : Prop := OwnG sv 24 w base v xs ∧ NoWv w v

theorem OwnT.keep0 {w w' : World} {base : Nat} {v : Value} {xs : List ByteArray} (h : OwnT w base v xs) (hg : w.grownBy w' none) : OwnT w' base v xs :=
  ⟨h.1.keep0 hg, fun k ek => (h.2 k ek).keep (h.1.fresh k ek).2 hg (by simp)⟩

theorem ownT_one {w : World} {s : ByteArray} {base : Nat} (hb : base ≤ w.heap.size) : OwnT (w.alloc (Obj.cells #[sv s] 24)) base (.slice (some ⟨w.heap.size, 0, none⟩) 1 1) [s] := by
  have hh := heap_alloc_new w (Obj.cells #[sv s] 24)
  refine ⟨⟨rfl, .inr ⟨w.heap.size, 1, #[sv s], rfl, hb, hh, Nat.le_refl _, by unfold maxLen; decide, rfl, rfl⟩⟩, fun k ek => ?_⟩
  simp only [Value.ownBlock, Option.some.injEq] at ek
  subst ek
  refine NoW.cells hh ?_
  intro u hu x
  simp at hu
  subst hu
  intro e
  cases e

/-- No row of fractions lies in it. -/
theorem OwnT.apart {w : World} {base : Nat} {v : Value} {xs : List ByteArray} (h : OwnT w base v xs) (h0 : 0 < xs.length) {b n L : Nat} {R : Nat → Rat} (hr : FRow w b n R L) (hn : 0 < n) : some b ≠ v.ownBlock := by
  intro e
  obtain ⟨uo, ul, uc, vo, vl, vc, c0, _⟩ := hr.at 0 hn
  rcases h.1.2 with ⟨rfl, h1⟩ | ⟨g, cap, cur, rfl, hb, hh, h1, h2, h3, h4⟩
  · simp [Value.ownBlock] at e
  · simp only [Value.ownBlock, Option.some.injEq] at e
    subst e
    have h5 : (cur.toList.take (xs.length * 1))[0]? = (xs.map sv)[0]? := by rw [h4]
    rw [List.getElem?_take, if_pos (by omega)] at h5
    simp only [World.cell?, hh, Nat.zero_mul] at c0
    have c0' : cur[0]? = some (Value.bool (rB (R 0))) := c0
    rw [Array.getElem?_toList, c0'] at h5
    rw [List.getElem?_map, List.getElem?_eq_getElem h0] at h5
    simp at h5

theorem Rw.keepT {w w' : World} {v : Value} {n : Nat} {R : Nat → Rat} {L : Nat} {r : Option Nat} (h : Rw w v n R L) (g : w.grownBy w' r) (k : WKept w w') (hne : ∀ b, 0 < n → FRow w b n R L → some b ≠ r) : Rw w' v n R L := by
  obtain ⟨ao, c, e, h1, h2, h3⟩ := h
  refine ⟨ao, c, e, h1, h2, fun h0 => ?_⟩
  obtain ⟨b, e1, e3⟩ := h3 h0
  exact ⟨b, e1, e3.keep g k (hne b h0 e3)⟩

/-- 'out = append(out, y)', y a text. -/
theorem wpList_append_t {P : Program} (W : World) {ops : Array Oper} {rest : List Oper} {o : Oper} {a : Act} {Q : Exit → Act → World → Prop}
    (hg : o.guard = none) (s x : Operand) (t : TypeId) (ho : o.op = .call { callee := .builtin .append, args := #[s, x], argTypes := #[t, t] }) (base : Nat)
    (h1 : P.underlying t = some (.slice 24)) (hinfo : (P.info? 24).map (fun i => (i.zero, i.size, i.bytes)) = some (some (sv ⟨#[]⟩), 1, 16))
    (v : Value) (xs : List ByteArray) (hs : a.eval s = v) (hown : OwnT W base v xs) (b : Nat) (y : ByteArray) (hx : a.eval x = .slice (some ⟨b, 0, none⟩) 1 1) (hc : W.cell? ⟨b, 0, none⟩ = some (sv y))
    (hlen : xs.length ≤ 1000000) (hbase : base ≤ W.heap.size)
    (hK : ∀ ao cap w', OwnT w' base (.slice ao (xs.length + 1) cap) (xs ++ [y]) → W.grownBy w' v.ownBlock → WKept W w' → wpList P ops Q rest (a.put o.dst (.slice ao (xs.length + 1) cap)) w') : wpList P ops Q (o :: rest) a W := by
  obtain ⟨i, hi, hz0, hsz, hz2⟩ := info_parts hinfo
  obtain ⟨v', w', hr, h2, h3, h4, h5⟩ := run_append_nwf (P := P) W base t o.type 24 i _ 1 16 h1 hi hz0 hsz hz2 rfl (by decide)
    (fun j x hj => by
      obtain rfl : j = 0 := by omega
      intro e
      cases e)
    v xs.length (xs.map sv) hown.1 hown.2 (fun u hu x => by obtain ⟨u', _, rfl⟩ := List.mem_map.1 hu; intro e; cases e) ⟨b, 0, none⟩ 1 1 [sv y] rfl (by decide)
    (fun j u hj => by
      match j with
      | 0 =>
        simp only [List.getElem?_cons_zero, Option.some.injEq] at hj
        subst hj
        simpa [Addr.add] using hc
      | j + 1 => simp at hj)
    (fun u hu => by
      simp only [List.mem_singleton] at hu
      subst hu
      rfl)
    (fun u hu x => by
      simp only [List.mem_singleton] at hu
      subst hu
      intro e
      cases e) (by unfold maxLen; omega) (by omega) hbase
  have h6 : OwnT w' base v' (xs ++ [y]) := by
    refine ⟨?_, h4⟩
    unfold OwnG
    rw [List.length_append, List.map_append]
    exact h2
  obtain ⟨ao, cap, ev⟩ := h6.1.shape
  rw [List.length_append, List.length_singleton] at ev
  refine wpList_plain hg fun _ hK2 => ?_
  unfold Oper.wp execOp
  simp only [ho, resolve, invoke, builtin, Sem.run_bind, Sem.run_pure, Result.andThen_ok, List.map_toArray, List.map_cons, List.map_nil, hs, hx, hr]
  rw [ev] at h6 ⊢
  exact hK2 _ _ (hK ao cap w' h6 h3 h5)

theorem fit_mono {L L' : Nat} {q : Rat} (h : FitW L q) (hl : L ≤ L') : FitW L' q :=
  ⟨Nat.lt_of_lt_of_le h.1 (Nat.pow_le_pow_right (by decide) hl), Nat.lt_of_lt_of_le h.2 (Nat.pow_le_pow_right (by decide) hl)⟩
end Go.Proofs.YtbihhkcgiepgaaeGreatDoor
