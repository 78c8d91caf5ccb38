/- The reference's numbers as the laws read them. -/
import Derived.Test.YtklkpkkjakllfaaGreatDoorXBg
import Derived.Test.YtklkpkkjakllfaaGreatDoorXBi
import Derived.Test.YtklkpkkjakllfaaGreatDoorXRMulX
import Derived.Test.YtklkpkkjakllfaaGreatDoorXFg
import Derived.Test.YtklkpkkjakllfaaGreatDoorXTa
import Derived.Test.YtklkpkkjakllfaaGreatDoorXPc
set_option linter.unusedVariables false
set_option linter.unusedSimpArgs false
namespace Go.Proofs.YtklkpkkjakllfaaGreatDoor
open Go.RowKit
theorem IntAt.tight {w : World} {b o L K : Nat} {z : Int} (h : IntAt w b o z L) (hz : z.natAbs < 4294967296 ^ K) : IntAt w b o z K := by
  obtain ⟨neg, v, h1, h2, h3, h4⟩ := h
  exact ⟨neg, v, h1, h2.tight hz, h3, h4⟩
def RV (w : World) (b : Nat) (q : Rat) (L : Nat) : Prop := RQ w b q L ∨ (q = 0 ∧ RNil w b L)
theorem RQ.v {w : World} {b : Nat} {q : Rat} {L : Nat} (h : RQ w b q L) : RV w b q L := .inl h
theorem RV.keep0 {w w' : World} {b L : Nat} {q : Rat} (h : RV w b q L) (hg : w.grownBy w' none) : RV w' b q L := by
  rcases h with h | ⟨e, h⟩
  · exact .inl (h.keep0 hg)
  · exact .inr ⟨e, h.keep0 hg⟩
theorem RV.mono {w : World} {b L L' : Nat} {q : Rat} (h : RV w b q L) (hl : L ≤ L') : RV w b q L' := by
  rcases h with h | ⟨e, h⟩
  · exact .inl (h.mono hl)
  · exact .inr ⟨e, h.1.mono hl, h.2.mono hl⟩
theorem RV.x {w : World} {b L : Nat} {q : Rat} (h : RV w b q L) (hL : 2 ≤ L) : RX w b q L := by
  rcases h with h | ⟨rfl, h⟩
  · exact h.x
  · exact h.x hL
theorem RV.tight {w : World} {b L K : Nat} {q : Rat} (h : RV w b q L) (hf : FitW K q) : RV w b q K := by
  rcases h with h | ⟨rfl, h⟩
  · exact .inl ⟨h.1.tight hf.1, h.2.1.tight hf.2, h.2.2⟩
  · exact .inr ⟨rfl, h.1.tight hf.1, h.2.tight hf.1⟩
theorem rOfV_at (s : ByteArray) (q : Rat) (m : Int) (L : Nat) (w : World) (hq : q = ofR s.data.toList) (hs : s.size ≤ 1000000000) (hf : FitW L q) (hml : w.cell? ⟨0, 0, none⟩ = some (.int .i64 m)) :
    Calls Tryz.prog 5 #[.string s] w fun e w' => ∃ b, e = .returned (.pointer (some ⟨b, 0, none⟩)) ∧ RV w' b q L ∧ w.grownBy w' none := by
  refine (rOf_at s m w hs hml).mono ?_
  rintro e w' ⟨b, rfl, h1, h2⟩
  rw [← hq] at h2
  have h3 : RV w' b q (3 * s.size + 8) := h2
  exact ⟨b, rfl, h3.tight hf, h1⟩
theorem sgn_sign (z : Int) : sgn z = z.sign := by
  unfold sgn
  rcases Int.lt_trichotomy z 0 with h | h | h
  · rw [if_pos h, Int.sign_eq_neg_one_of_neg h]
  · subst h; rfl
  · rw [if_neg (by omega), if_pos h, Int.sign_eq_one_of_pos h]
theorem rSignV_at (b : Nat) (q : Rat) (L : Nat) (w : World) (h : RV w b q L) :
    Calls Tryz.prog 6 #[.pointer (some ⟨b, 0, none⟩)] w fun e w' => e = .returned (.int .i64 q.num.sign) ∧ w' = w := by
  rcases h with h | ⟨e, h⟩
  · refine (ratSign_at b q.num L w h.1).mono ?_
    rintro e w' ⟨rfl, rfl⟩
    exact ⟨by rw [sgn_sign], rfl⟩
  · refine (ratSign_at b 0 L w h.1).mono ?_
    rintro e' w' ⟨rfl, rfl⟩
    exact ⟨by rw [e]; rfl, rfl⟩
theorem rTV_at (b : Nat) (q : Rat) (L : Nat) (w : World) (h : RV w b q L) (hL : L ≤ 100000000000) :
    Calls Tryz.prog 74 #[.pointer (some ⟨b, 0, none⟩)] w fun e w' => e = .returned (.string ⟨(qtext q).toArray⟩) ∧ w.grownBy w' none := by
  rcases h with h | ⟨rfl, h⟩
  · exact rT_at b q L w h hL
  · exact rT_nil b L w h hL
theorem RV.ints {w : World} {b L : Nat} {q : Rat} (h : RV w b q L) : ∃ z y : Int, IntAt w b 0 z L ∧ IntAt w b 2 y L := by
  rcases h with h | ⟨rfl, h⟩
  · exact ⟨_, _, h.1, h.2.1⟩
  · exact ⟨_, _, h.1, h.2⟩
def pf (b : Nat) : Value := .pointer (some ⟨b, 0, none⟩)
theorem Tryz.infoPR : (Tryz.prog.info? 26).map (fun i => (i.zero, i.size, i.bytes)) = some (some (Value.pointer none), 1, 8) := by kernel_rfl
def OwnPt (w : World) (base : Nat) (v : Value) (xs : List Nat) : Prop := OwnG pf 26 w base v xs ∧ NoWv w v
theorem OwnPt.keep0 {w w' : World} {base : Nat} {v : Value} {xs : List Nat} (h : OwnPt w base v xs) (hg : w.grownBy w' none) : OwnPt w' base v xs :=
  ⟨h.1.keep0 hg, fun k ek => (h.2 k ek).keep (h.1.fresh k ek).2 hg (by simp)⟩
theorem OwnPt.apart {w : World} {base : Nat} {v : Value} {xs : List Nat} (h : OwnPt w base v xs) (h0 : 0 < xs.length) {b L : Nat} {q : Rat} (hr : RV w b q L) : some b ≠ v.ownBlock := by
  intro e
  obtain ⟨z, y, ⟨n1, v1, b1, _⟩, _⟩ := hr.ints
  rcases h.1.2 with ⟨rfl, h1⟩ | ⟨g, cap, cur, rfl, hb, hh, h1, h2, h3, h4⟩
  · simp [Value.ownBlock] at e
  · simp only [Value.ownBlock, Option.some.injEq] at e
    subst e
    have h5 : (cur.toList.take (xs.length * 1))[0]? = (xs.map pf)[0]? := by rw [h4]
    rw [List.getElem?_take, if_pos (by omega)] at h5
    have c0 := b1.c0
    simp only [World.cell?, hh] at c0
    have c0' : cur[0]? = some (Value.bool n1) := c0
    rw [Array.getElem?_toList, c0'] at h5
    rw [List.getElem?_map, List.getElem?_eq_getElem h0] at h5
    simp [pf] at h5
theorem IntAt.keptO {w w' : World} {g o L : Nat} {z : Int} {r : Option Nat} (h : IntAt w g o z L) (gr : w.grownBy w' r) (k : WKept w w') (hr : some g ≠ r) : IntAt w' g o z L := by
  obtain ⟨neg, v, h1, ⟨xs, h2, h3⟩, h4⟩ := h
  have e := gr.block g h1.lt hr
  refine ⟨neg, v, ⟨(World.cell?_of_block (a := ⟨g, o, none⟩) e).trans h1.c0, (World.cell?_of_block (a := ⟨g, o + 1, none⟩) e).trans h1.c1, (World.frozen?_of_block (a := ⟨g, o, none⟩) e).trans h1.f0, (World.frozen?_of_block (a := ⟨g, o + 1, none⟩) e).trans h1.f1⟩, ⟨xs, ⟨h2.sm, ?_⟩, h3⟩, h4⟩
  rcases h2.sh with h | ⟨b, off, cap, rfl, hb, hl, hm, hc⟩
  · exact .inl h
  · exact .inr ⟨b, off, cap, rfl, Nat.lt_of_lt_of_le hb k.1, hl, hm, fun i hi => k.2 _ _ (hc i hi)⟩
theorem RV.keptO {w w' : World} {g L : Nat} {q : Rat} {r : Option Nat} (h : RV w g q L) (gr : w.grownBy w' r) (k : WKept w w') (hr : some g ≠ r) : RV w' g q L := by
  rcases h with h | ⟨e, h⟩
  · exact .inl ⟨h.1.keptO gr k hr, h.2.1.keptO gr k hr, h.2.2⟩
  · exact .inr ⟨e, h.1.keptO gr k hr, h.2.keptO gr k hr⟩
theorem wpList_append_pt {P : Program} (W : World) {ops : Array Oper} {rest : List Oper} {o : Oper} {a : Act} {Q : Exit → Act → World → Prop}
    (hg : o.guard = none) (s x : Operand) (t : TypeId) (ho : o.op = .call { callee := .builtin .append, args := #[s, x], argTypes := #[t, t] }) (base : Nat)
    (h1 : P.underlying t = some (.slice 26)) (hinfo : (P.info? 26).map (fun i => (i.zero, i.size, i.bytes)) = some (some (Value.pointer none), 1, 8))
    (v : Value) (xs : List Nat) (hs : a.eval s = v) (hown : OwnPt W base v xs) (b : Nat) (y : Nat) (hx : a.eval x = .slice (some ⟨b, 0, none⟩) 1 1) (hc : W.cell? ⟨b, 0, none⟩ = some (pf y))
    (hlen : xs.length ≤ 1000000) (hbase : base ≤ W.heap.size)
    (hK : ∀ ao cap w', OwnPt w' base (.slice ao (xs.length + 1) cap) (xs ++ [y]) → W.grownBy w' v.ownBlock → WKept W w' → wpList P ops Q rest (a.put o.dst (.slice ao (xs.length + 1) cap)) w') : wpList P ops Q (o :: rest) a W := by
  obtain ⟨i, hi, hz0, hsz, hz2⟩ := info_parts hinfo
  obtain ⟨v', w', hr, h2, h3, h4, h5⟩ := run_append_nwf (P := P) W base t o.type 26 i _ 1 8 h1 hi hz0 hsz hz2 rfl (by decide)
    (fun j x hj => by
      obtain rfl : j = 0 := by omega
      intro e
      cases e)
    v xs.length (xs.map pf) hown.1 hown.2 (fun u hu x => by obtain ⟨u', _, rfl⟩ := List.mem_map.1 hu; intro e; cases e) ⟨b, 0, none⟩ 1 1 [pf y] rfl (by decide)
    (fun j u hj => by
      match j with
      | 0 =>
        simp only [List.getElem?_cons_zero, Option.some.injEq] at hj
        subst hj
        simpa [Addr.add] using hc
      | j + 1 => simp at hj)
    (fun u hu => by
      simp only [List.mem_singleton] at hu
      subst hu
      rfl)
    (fun u hu x => by
      simp only [List.mem_singleton] at hu
      subst hu
      intro e
      cases e) (by unfold maxLen; omega) (by omega) hbase
  have h6 : OwnPt w' base v' (xs ++ [y]) := by
    refine ⟨?_, h4⟩
    unfold OwnG
    rw [List.length_append, List.map_append]
    exact h2
  obtain ⟨ao, cap, ev⟩ := h6.1.shape
  rw [List.length_append, List.length_singleton] at ev
  refine wpList_plain hg fun _ hK2 => ?_
  unfold Oper.wp execOp
  simp only [ho, resolve, invoke, builtin, Sem.run_bind, Sem.run_pure, Result.andThen_ok, List.map_toArray, List.map_cons, List.map_nil, hs, hx, hr]
  rw [ev] at h6 ⊢
  exact hK2 _ _ (hK ao cap w' h6 h3 h5)
end Go.Proofs.YtklkpkkjakllfaaGreatDoor
