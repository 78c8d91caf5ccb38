/- Rows of pointers to numbers that a call itself made; a number that stands and is added to. -/
import Derived.Test.YtdpagdlmpajjkafGreatDoorXVRef
import Derived.Test.YtdpagdlmpajjkafGreatDoorXVb
namespace Go.Proofs.YtdpagdlmpajjkafGreatDoor
open Go.RowKit
set_option linter.unusedVariables false
set_option linter.unusedSimpArgs false

theorem RV.ints {w : World} {b L : Nat} {q : Rat} (h : RV w b q L) : ∃ z y : Int, IntAt w b 0 z L ∧ IntAt w b 2 y L := by
  rcases h with h | ⟨rfl, h⟩
  · exact ⟨_, _, h.1, h.2.1⟩
  · exact ⟨_, _, h.1, h.2⟩
theorem RV.lt {w : World} {b L : Nat} {q : Rat} (h : RV w b q L) : b < w.heap.size := by
  obtain ⟨z, y, ⟨n1, v1, b1, _⟩, _⟩ := h.ints
  exact b1.lt

/-- No cell of block b from the fourth on. -/
def VBox (w : World) (b : Nat) : Prop := ∀ o, 4 ≤ o → w.cell? ⟨b, o, none⟩ = none

theorem Ws.slice {w : World} {v : Value} {xs : List Nat} (h : Ws w v xs) : ∃ ao l c, v = .slice ao l c := by
  rcases h.sh with ⟨h1, _⟩ | ⟨b, off, cap, h1, _⟩
  · exact ⟨_, _, _, h1⟩
  · exact ⟨_, _, _, h1⟩

theorem RV.noW {w : World} {b L : Nat} {q : Rat} (h : RV w b q L) (hb : VBox w b) : NoWords w b := by
  obtain ⟨z, y, ⟨n1, v1, b1, m1, _⟩, ⟨n2, v2, b2, m2, _⟩⟩ := h.ints
  obtain ⟨x1, w1, _⟩ := m1.ex
  obtain ⟨x2, w2, _⟩ := m2.ex
  obtain ⟨ao, l, c, rfl⟩ := w1.slice
  obtain ⟨ao2, l2, c2, rfl⟩ := w2.slice
  intro i x e
  by_cases h4 : 4 ≤ i
  · rw [hb i h4] at e
    cases e
  · have : i = 0 ∨ i = 0 + 1 ∨ i = 2 ∨ i = 2 + 1 := by omega
    rcases this with e1 | e1 | e1 | e1 <;> rw [e1] at e
    · rw [b1.c0] at e; cases e
    · rw [b1.c1] at e; cases e
    · rw [b2.c0] at e; cases e
    · rw [b2.c1] at e; cases e

theorem Ws.keepV {w w' : World} {v : Value} {xs : List Nat} {k : Nat} (h : Ws w v xs) (hg : w.grownBy w' (some k)) (hn : NoWords w k) : Ws w' v xs := by
  refine ⟨h.sm, ?_⟩
  rcases h.sh with h1 | ⟨b, off, cap, rfl, hb, hl, hm, hc⟩
  · exact .inl h1
  · refine .inr ⟨b, off, cap, rfl, Nat.lt_of_lt_of_le hb hg.size, hl, hm, fun i hi => ?_⟩
    have hne : b ≠ k := fun e => hn (off + i) xs[i] (by rw [← e]; exact hc i hi)
    have e : w'.heap[b]? = w.heap[b]? := hg.block b hb (fun e => hne (Option.some.inj e))
    exact (World.cell?_of_block (a := ⟨b, off + i, none⟩) e).trans (hc i hi)

theorem IntAt.keepV {w w' : World} {b off L : Nat} {z : Int} {k : Nat} (h : IntAt w b off z L) (hg : w.grownBy w' (some k)) (hn : NoWords w k) (hne : b ≠ k) : IntAt w' b off z L := by
  obtain ⟨neg, v, h1, ⟨xs, h2, h3⟩, h4⟩ := h
  have e : w'.heap[b]? = w.heap[b]? := hg.block b h1.lt (fun e => hne (Option.some.inj e))
  exact ⟨neg, v, ⟨(World.cell?_of_block (a := ⟨b, off, none⟩) e).trans h1.c0, (World.cell?_of_block (a := ⟨b, off + 1, none⟩) e).trans h1.c1, (World.frozen?_of_block (a := ⟨b, off, none⟩) e).trans h1.f0, (World.frozen?_of_block (a := ⟨b, off + 1, none⟩) e).trans h1.f1⟩, ⟨xs, h2.keepV hg hn, h3⟩, h4⟩

theorem RV.keepV {w w' : World} {b L : Nat} {q : Rat} {k : Nat} (h : RV w b q L) (hg : w.grownBy w' (some k)) (hn : NoWords w k) (hne : b ≠ k) : RV w' b q L := by
  rcases h with h | ⟨e, h⟩
  · exact .inl ⟨h.1.keepV hg hn hne, h.2.1.keepV hg hn hne, h.2.2⟩
  · exact .inr ⟨e, h.1.keepV hg hn hne, h.2.keepV hg hn hne⟩

theorem VBox.keep {w w' : World} {b : Nat} {r : Option Nat} (h : VBox w b) (hb : b < w.heap.size) (hg : w.grownBy w' r) (hr : some b ≠ r) : VBox w' b := fun o h4 => by
  rw [World.cell?_of_block (a := ⟨b, o, none⟩) (hg.block b hb hr)]
  exact h o h4

/-- A fraction that was just made. -/
def NewR (w : World) (b : Nat) : Prop := w.heap[b]? = some (Obj.cells #[.bool false, .slice none 0 0, .bool false, .slice none 0 0] 69 (0, 0))

theorem NewR.keep {w w' : World} {b : Nat} {r : Option Nat} (h : NewR w b) (hg : w.grownBy w' r) (hr : some b ≠ r) : NewR w' b := by
  unfold NewR at h ⊢
  rw [hg.block b (Array.getElem?_eq_some_iff.1 h).1 hr]
  exact h

theorem NewR.nil {w : World} {b : Nat} (h : NewR w b) (L : Nat) : RNil w b L ∧ VBox w b := by
  unfold NewR at h
  have b1 : Box w b 0 false (.slice none 0 0) := by constructor <;> simp [World.cell?, World.frozen?, h]
  have b2 : Box w b 2 false (.slice none 0 0) := by constructor <;> simp [World.cell?, World.frozen?, h]
  have m : Num w (.slice none 0 0) 0 L := ⟨[], Ws.nil w, rfl, rfl, Nat.zero_le _⟩
  refine ⟨⟨⟨false, _, b1, m, rfl, by simp [blockOf]⟩, ⟨false, _, b2, m, rfl, by simp [blockOf]⟩⟩, fun o ho => ?_⟩
  simp only [World.cell?, h]
  simp
  omega

/-- Rat.Add into a number that stands: z is the first one. -/
theorem addTo_at (bz bY : Nat) (p q : Rat) (L M : Nat) (w : World) (hX : RV w bz p L) (hY : RX w bY q M) (h2 : 2 ≤ L) (hL : L + M ≤ 3900000000000) :
    Calls Tryz.prog 36 #[.pointer (some ⟨bz, 0, none⟩), .pointer (some ⟨bz, 0, none⟩), .pointer (some ⟨bY, 0, none⟩)] w fun e w' => e = .returned (.pointer (some ⟨bz, 0, none⟩)) ∧ RPut w w' bz ∧ RQ w' bz (p + q) (L + M + 3) := by
  obtain ⟨z, y, ⟨n1, v1, b1, _⟩, ⟨n2, v2, b2, _⟩⟩ := hX.ints
  have hx := hX.x h2
  refine (ratAdd_at bz bz bY n1 n2 v1 v2 _ _ _ _ L M w b1 b2 hx.1 hY.1 hx.2 hY.2 p.den_pos q.den_pos hL).mono ?_
  rintro e w' ⟨rfl, h1, h3⟩
  exact ⟨rfl, h1, RatAt.q (Nat.mul_pos p.den_pos q.den_pos) (add_mk p q) h3⟩


/-- A pointer to a number. -/
def pf (b : Nat) : Value := .pointer (some ⟨b, 0, none⟩)

theorem Tryz.infoPR : (Tryz.prog.info? 34).map (fun i => (i.zero, i.size, i.bytes)) = some (some (Value.pointer none), 1, 8) := by kernel_rfl

/-- A slice of pointers that the call itself made. -/
def OwnPt (w : World) (base : Nat) (v : Value) (xs : List Nat) : Prop := OwnG pf 34 w base v xs ∧ NoWv w v

theorem OwnPt.keep0 {w w' : World} {base : Nat} {v : Value} {xs : List Nat} (h : OwnPt w base v xs) (hg : w.grownBy w' none) : OwnPt w' base v xs :=
  ⟨h.1.keep0 hg, fun k ek => (h.2 k ek).keep (h.1.fresh k ek).2 hg (by simp)⟩

theorem ownPt_one {w : World} {s base : Nat} (hb : base ≤ w.heap.size) : OwnPt (w.alloc (Obj.cells #[pf s] 34)) base (.slice (some ⟨w.heap.size, 0, none⟩) 1 1) [s] := by
  have hh := heap_alloc_new w (Obj.cells #[pf s] 34)
  refine ⟨⟨rfl, .inr ⟨w.heap.size, 1, #[pf s], rfl, hb, hh, Nat.le_refl _, by unfold maxLen; decide, rfl, rfl⟩⟩, fun k ek => ?_⟩
  simp only [Value.ownBlock, Option.some.injEq] at ek
  subst ek
  refine NoW.cells hh ?_
  intro u hu x
  simp at hu
  subst hu
  intro e
  cases e

/-- No number lies in it. -/
theorem OwnPt.apart {w : World} {base : Nat} {v : Value} {xs : List Nat} (h : OwnPt w base v xs) (h0 : 0 < xs.length) {b L : Nat} {q : Rat} (hr : RV w b q L) : some b ≠ v.ownBlock := by
  intro e
  obtain ⟨z, y, ⟨n1, v1, b1, _⟩, _⟩ := hr.ints
  rcases h.1.2 with ⟨rfl, h1⟩ | ⟨g, cap, cur, rfl, hb, hh, h1, h2, h3, h4⟩
  · simp [Value.ownBlock] at e
  · simp only [Value.ownBlock, Option.some.injEq] at e
    subst e
    have h5 : (cur.toList.take (xs.length * 1))[0]? = (xs.map pf)[0]? := by rw [h4]
    rw [List.getElem?_take, if_pos (by omega)] at h5
    have c0 := b1.c0
    simp only [World.cell?, hh] at c0
    have c0' : cur[0]? = some (Value.bool n1) := c0
    rw [Array.getElem?_toList, c0'] at h5
    rw [List.getElem?_map, List.getElem?_eq_getElem h0] at h5
    simp [pf] at h5

theorem IntAt.keptO {w w' : World} {g o L : Nat} {z : Int} {r : Option Nat} (h : IntAt w g o z L) (gr : w.grownBy w' r) (k : WKept w w') (hr : some g ≠ r) : IntAt w' g o z L := by
  obtain ⟨neg, v, h1, ⟨xs, h2, h3⟩, h4⟩ := h
  have e := gr.block g h1.lt hr
  refine ⟨neg, v, ⟨(World.cell?_of_block (a := ⟨g, o, none⟩) e).trans h1.c0, (World.cell?_of_block (a := ⟨g, o + 1, none⟩) e).trans h1.c1, (World.frozen?_of_block (a := ⟨g, o, none⟩) e).trans h1.f0, (World.frozen?_of_block (a := ⟨g, o + 1, none⟩) e).trans h1.f1⟩, ⟨xs, ⟨h2.sm, ?_⟩, h3⟩, h4⟩
  rcases h2.sh with h | ⟨b, off, cap, rfl, hb, hl, hm, hc⟩
  · exact .inl h
  · exact .inr ⟨b, off, cap, rfl, Nat.lt_of_lt_of_le hb k.1, hl, hm, fun i hi => k.2 _ _ (hc i hi)⟩

theorem RV.keptO {w w' : World} {g L : Nat} {q : Rat} {r : Option Nat} (h : RV w g q L) (gr : w.grownBy w' r) (k : WKept w w') (hr : some g ≠ r) : RV w' g q L := by
  rcases h with h | ⟨e, h⟩
  · exact .inl ⟨h.1.keptO gr k hr, h.2.1.keptO gr k hr, h.2.2⟩
  · exact .inr ⟨e, h.1.keptO gr k hr, h.2.keptO gr k hr⟩

/-- 'out = append(out, y)', y a text. -/
theorem wpList_append_pt {P : Program} (W : World) {ops : Array Oper} {rest : List Oper} {o : Oper} {a : Act} {Q : Exit → Act → World → Prop}
    (hg : o.guard = none) (s x : Operand) (t : TypeId) (ho : o.op = .call { callee := .builtin .append, args := #[s, x], argTypes := #[t, t] }) (base : Nat)
    (h1 : P.underlying t = some (.slice 34)) (hinfo : (P.info? 34).map (fun i => (i.zero, i.size, i.bytes)) = some (some (Value.pointer none), 1, 8))
    (v : Value) (xs : List Nat) (hs : a.eval s = v) (hown : OwnPt W base v xs) (b : Nat) (y : Nat) (hx : a.eval x = .slice (some ⟨b, 0, none⟩) 1 1) (hc : W.cell? ⟨b, 0, none⟩ = some (pf y))
    (hlen : xs.length ≤ 1000000) (hbase : base ≤ W.heap.size)
    (hK : ∀ ao cap w', OwnPt w' base (.slice ao (xs.length + 1) cap) (xs ++ [y]) → W.grownBy w' v.ownBlock → WKept W w' → wpList P ops Q rest (a.put o.dst (.slice ao (xs.length + 1) cap)) w') : wpList P ops Q (o :: rest) a W := by
  obtain ⟨i, hi, hz0, hsz, hz2⟩ := info_parts hinfo
  obtain ⟨v', w', hr, h2, h3, h4, h5⟩ := run_append_nwf (P := P) W base t o.type 34 i _ 1 8 h1 hi hz0 hsz hz2 rfl (by decide)
    (fun j x hj => by
      obtain rfl : j = 0 := by omega
      intro e
      cases e)
    v xs.length (xs.map pf) hown.1 hown.2 (fun u hu x => by obtain ⟨u', _, rfl⟩ := List.mem_map.1 hu; intro e; cases e) ⟨b, 0, none⟩ 1 1 [pf y] rfl (by decide)
    (fun j u hj => by
      match j with
      | 0 =>
        simp only [List.getElem?_cons_zero, Option.some.injEq] at hj
        subst hj
        simpa [Addr.add] using hc
      | j + 1 => simp at hj)
    (fun u hu => by
      simp only [List.mem_singleton] at hu
      subst hu
      rfl)
    (fun u hu x => by
      simp only [List.mem_singleton] at hu
      subst hu
      intro e
      cases e) (by unfold maxLen; omega) (by omega) hbase
  have h6 : OwnPt w' base v' (xs ++ [y]) := by
    refine ⟨?_, h4⟩
    unfold OwnG
    rw [List.length_append, List.map_append]
    exact h2
  obtain ⟨ao, cap, ev⟩ := h6.1.shape
  rw [List.length_append, List.length_singleton] at ev
  refine wpList_plain hg fun _ hK2 => ?_
  unfold Oper.wp execOp
  simp only [ho, resolve, invoke, builtin, Sem.run_bind, Sem.run_pure, Result.andThen_ok, List.map_toArray, List.map_cons, List.map_nil, hs, hx, hr]
  rw [ev] at h6 ⊢
  exact hK2 _ _ (hK ao cap w' h6 h3 h5)

end Go.Proofs.YtdpagdlmpajjkafGreatDoor
