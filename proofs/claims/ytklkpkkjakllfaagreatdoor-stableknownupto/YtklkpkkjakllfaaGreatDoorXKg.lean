/- A block of three numbers beside the reference's numbers: written to, these stay. -/
import Derived.Test.YtklkpkkjakllfaaGreatDoorXKTim
import Derived.ChangeKeysEq
set_option linter.unusedVariables false
set_option linter.unusedSimpArgs false
set_option maxHeartbeats 4000000
namespace Go.Proofs.YtklkpkkjakllfaaGreatDoor
open Go.RowKit
def BoxC (w : World) (b : Nat) (cs : Array Value) : Prop := ∃ T, w.heap[b]? = some (Obj.cells cs T (0, 0))
section
variable {w w' : World} {b b' : Nat} {cs : Array Value}
theorem BoxC.lt (h : BoxC w b cs) : b < w.heap.size := by
  obtain ⟨T, h⟩ := h
  exact (Array.getElem?_eq_some_iff.1 h).1
theorem BoxC.keep0 (h : BoxC w b cs) (g : w.grownBy w' none) : BoxC w' b cs := by
  have hl := h.lt
  obtain ⟨T, h⟩ := h
  exact ⟨T, by rw [g.block b hl (by simp)]; exact h⟩
theorem boxNew (w : World) (cs : Array Value) (T : TypeId) : BoxC (w.alloc (Obj.cells cs T)) w.heap.size cs := ⟨T, heap_alloc_new w _⟩
theorem boxNew' (w : World) (cs : Array Value) (T : TypeId) (b : Nat) (hb : w.heap.size = b) : BoxC (w.alloc (Obj.cells cs T)) b cs := hb ▸ boxNew w cs T
theorem BoxC.cell (h : BoxC w b cs) (i : Nat) : w.cell? ⟨b, i, none⟩ = cs[i]? := by
  obtain ⟨T, h⟩ := h
  simp [World.cell?, h]
theorem BoxC.fro (h : BoxC w b cs) (i : Nat) : w.frozen? ⟨b, i, none⟩ = false := by
  obtain ⟨T, h⟩ := h
  simp [World.frozen?, h]
theorem BoxC.set (h : BoxC w b cs) (i : Nat) (v : Value) : BoxC (w.setCell ⟨b, i, none⟩ v) b (cs.setIfInBounds i v) := by
  obtain ⟨T, h⟩ := h
  exact ⟨T, heap_setCell_same w b i cs T v h⟩
def NoWd (cs : Array Value) : Prop := ∀ (i x : Nat), cs[i]? ≠ some (Value.int .u32 (x : Nat))
theorem NoWd.at {cs : Array Value} (h : NoWd cs) (i x : Nat) : cs[i]? ≠ some (.int .u32 (x : Nat)) := h i x
theorem BoxC.kept (h : BoxC w b cs) (hn : NoWd cs) (i : Nat) (v : Value) : WKept w (w.setCell ⟨b, i, none⟩ v) := by
  obtain ⟨T, h⟩ := h
  exact WKept.set h (hn.at i) v
end
theorem Ws.other2 {w : World} {b i : Nat} {cs : Array Value} {v x : Value} {xs : List Nat} (hb : BoxC w b cs) (hn : NoWd cs) (h : Ws w v xs) : Ws (w.setCell ⟨b, i, none⟩ x) v xs := by
  refine ⟨h.sm, ?_⟩
  rcases h.sh with h1 | ⟨g, off, cap, rfl, hl, h2, h3, hc⟩
  · exact .inl h1
  · exact .inr ⟨g, off, cap, rfl, by simpa using hl, h2, h3, fun j hj => (hb.kept hn i x).2 _ _ (hc j hj)⟩
theorem IntAt.set2 {w : World} {b i : Nat} {cs : Array Value} {x : Value} {g o L : Nat} {z : Int} (hb : BoxC w b cs) (hn : NoWd cs) (hne : g ≠ b) (h : IntAt w g o z L) : IntAt (w.setCell ⟨b, i, none⟩ x) g o z L := by
  obtain ⟨neg, v, h1, ⟨xs, h2, h3⟩, h4⟩ := h
  have e := heap_setCell_other w ⟨b, i, none⟩ g x hne
  exact ⟨neg, v, ⟨(World.cell?_of_block (a := ⟨g, o, none⟩) e).trans h1.c0, (World.cell?_of_block (a := ⟨g, o + 1, none⟩) e).trans h1.c1, (World.frozen?_of_block (a := ⟨g, o, none⟩) e).trans h1.f0, (World.frozen?_of_block (a := ⟨g, o + 1, none⟩) e).trans h1.f1⟩, ⟨xs, h2.other2 hb hn, h3⟩, h4⟩
theorem RV.set1 {w : World} {b i : Nat} {x : Value} {g L : Nat} {q : Rat} {cs : Array Value} (hb : BoxC w b cs) (hn : NoWd cs) (hne : g ≠ b) (h : RV w g q L) : RV (w.setCell ⟨b, i, none⟩ x) g q L := by
  rcases h with h | ⟨e, h⟩
  · exact .inl ⟨h.1.set2 hb hn hne, h.2.1.set2 hb hn hne, h.2.2⟩
  · exact .inr ⟨e, h.1.set2 hb hn hne, h.2.set2 hb hn hne⟩
theorem noWdI (l m r : Int) : NoWd #[.int .i64 l, .int .i64 m, .int .i64 r] := by
  intro i x
  match i with
  | 0 => simp
  | 1 => simp
  | 2 => simp
  | _ + 3 => simp
theorem BoxC.i3 {w : World} {b : Nat} {a0 a1 a2 : Value} (h : BoxC w b #[a0, a1, a2]) : w.cell? ⟨b, 0, none⟩ = some a0 ∧ w.cell? ⟨b, 1, none⟩ = some a1 ∧ w.cell? ⟨b, 2, none⟩ = some a2 ∧ w.frozen? ⟨b, 0, none⟩ = false ∧ w.frozen? ⟨b, 1, none⟩ = false ∧ w.frozen? ⟨b, 2, none⟩ = false :=
  ⟨h.cell 0, h.cell 1, h.cell 2, h.fro 0, h.fro 1, h.fro 2⟩
theorem RV.apartI {w : World} {b g : Nat} {q : Rat} {L : Nat} {l m r : Int} (h : RV w g q L) (hb : BoxC w b #[.int .i64 l, .int .i64 m, .int .i64 r]) : g ≠ b := by
  intro e
  subst e
  obtain ⟨z, y, ⟨n1, v1, h1, _⟩, _⟩ := h.ints
  have k := h1.c0
  rw [hb.cell 0] at k
  simp at k
theorem RP.set {w : World} {b i : Nat} {x v : Value} {n : Nat} {P : Nat → Rat} {L : Nat} {l m r : Int} (h : RP w v n P L) (hb : BoxC w b #[.int .i64 l, .int .i64 m, .int .i64 r]) : RP (w.setCell ⟨b, i, none⟩ x) v n P L := by
  obtain ⟨g, off, cap, e, h1, h2, h3⟩ := h
  refine ⟨g, off, cap, e, h1, h2, fun j hj => ?_⟩
  obtain ⟨c, hc, hr⟩ := h3 j hj
  have hne : g ≠ b := by
    intro e2
    subst e2
    rw [hb.cell (off + j)] at hc
    have : ∀ k : Nat, (#[Value.int .i64 l, Value.int .i64 m, Value.int .i64 r] : Array Value)[k]? ≠ some (Value.pointer (some ⟨c, 0, none⟩)) := by
      intro k
      match k with
      | 0 => simp
      | 1 => simp
      | 2 => simp
      | _ + 3 => simp
    exact this _ hc
  have e3 := heap_setCell_other w ⟨b, i, none⟩ g x hne
  exact ⟨c, (World.cell?_of_block (a := ⟨g, off + j, none⟩) e3).trans hc, RV.set1 hb (noWdI _ _ _) (hr.apartI hb) hr⟩
theorem side_at (b : Nat) (q : Rat) (L : Nat) (w : World) (h : RV w b q L) :
    Calls Tryz.prog 7 #[.pointer (some ⟨b, 0, none⟩)] w fun e w' => e = .returned (.int .i64 (q.num.sign + 1)) ∧ w' = w := by
  have H := hide h
  clear h
  obtain ⟨sg, hsg⟩ : ∃ x, x = q.num.sign := ⟨_, rfl⟩
  have h1 : -1 ≤ sg ∧ sg ≤ 1 := by rw [hsg]; exact sign_small _
  rw [← hsg]
  have HSG := hide hsg
  clear hsg
  go_enter Tryz.func7, Tryz.ntmps7
  go_wp2_with fail
  refine (rSignV_at b q L w H.out).mono ?_
  rintro e w1 ⟨rfl, rfl⟩
  rw [← HSG.out]
  go_wp2
  go_ret
  exact ⟨rfl, rfl⟩
def RowP (w : World) (v : Value) (ps : List (ByteArray × ByteArray)) : Prop :=
  ∃ ao cap, v = .slice ao ps.length cap ∧ ps.length ≤ cap ∧ cap ≤ maxLen ∧ ∀ i (h : i < ps.length), ∃ b off, ao = some ⟨b, off, none⟩ ∧ w.cell? ⟨b, off + i * 2, none⟩ = some (.string (ps[i]).1) ∧ w.cell? ⟨b, off + i * 2 + 1, none⟩ = some (.string (ps[i]).2)
theorem txt_fit {s : ByteArray} {p : Rat} (hp : p = ofR s.data.toList) (hs : s.size ≤ 1048576) : FitW 131074 p := by
  rw [hp]
  have h := ofR_fit s.data.toList
  have e : s.size = s.data.toList.length := Lib.size_eq _
  exact fit_grow h (by omega)
theorem txt_fitS {s : ByteArray} {p : Rat} (hp : p = ofR s.data.toList) : FitW (s.size / 8 + 2) p := by
  rw [hp]
  have h := ofR_fit s.data.toList
  have e : s.size = s.data.toList.length := Lib.size_eq _
  rw [e]
  exact h
theorem poly_texts {P : Nat → Rat} {n : Nat} (hp : ∀ i, n ≤ i → P i = 0) : polyQ (textsL P n) = P := by
  funext i
  by_cases hi : i < n
  · have hl : i < (textsL P n).length := by rw [textsL_length]; exact hi
    rw [polyQ_at hl]
    simp only [textsL, List.getElem_map, List.getElem_range]
    exact ofR_qtext _
  · unfold polyQ
    have : (textsL P n)[i]? = none := List.getElem?_eq_none (by rw [textsL_length]; omega)
    rw [this, hp i (by omega)]
end Go.Proofs.YtklkpkkjakllfaaGreatDoor
namespace Go.Proofs.YtklkpkkjakllfaaGreatDoor
open Go.RowKit
theorem eqI (z : Int) (w : World) : (Op.equalIn 9999 3 (.int .i64 z) (.int .i64 z)).run Tryz.prog w = .ok true w := by
  have h : (z == z) = true := beq_self_eq_true z
  have k : (Op.equalIn 9999 3 (.int .i64 z) (.int .i64 z)).run Tryz.prog w = .ok (z == z) w := by kernel_rfl
  rw [k, h]
theorem eq3 (l m r : Int) (w : World) : (Op.equalIn 10000 31 (.agg #[.int .i64 l, .int .i64 m, .int .i64 r]) (.agg #[.int .i64 l, .int .i64 m, .int .i64 r])).run Tryz.prog w = .ok true w := by
  have k : (Op.equalIn 10000 31 (.agg #[.int .i64 l, .int .i64 m, .int .i64 r]) (.agg #[.int .i64 l, .int .i64 m, .int .i64 r])).run Tryz.prog w = .ok (if (!(l == l)) = true then false else if (!(m == m)) = true then false else if (!(r == r)) = true then false else true) w := by
    obtain ⟨i, hi⟩ : ∃ i, Tryz.prog.info? 3 = some i := Option.isSome_iff_exists.1 (by kernel_rfl)
    have hc : Tryz.prog.cellsOf 3 = 1 := by kernel_rfl
    rw [run_equalIn_array (P := Tryz.prog) w 9999 (n := 3) (e := 3) _ _ (by kernel_rfl) hi, hc]
    have e0 : (part 3 #[Value.int .i64 l, Value.int .i64 m, Value.int .i64 r] 0).run Tryz.prog w = .ok (.int .i64 l) w := by kernel_rfl
    have e1 : (part 3 #[Value.int .i64 l, Value.int .i64 m, Value.int .i64 r] 1).run Tryz.prog w = .ok (.int .i64 m) w := by kernel_rfl
    have e2 : (part 3 #[Value.int .i64 l, Value.int .i64 m, Value.int .i64 r] 2).run Tryz.prog w = .ok (.int .i64 r) w := by kernel_rfl
    have hr : List.range 3 = [0, 1, 2] := rfl
    rw [hr]
    simp only [Op.eqItems, Sem.run_bind, Nat.zero_mul, Nat.one_mul, Nat.mul_one, e0, e1, e2, Result.andThen_ok, eqI, Bool.not_true, Bool.false_eq_true, if_false, Sem.run_pure]
    simp
  rw [k]
  simp
end Go.Proofs.YtklkpkkjakllfaaGreatDoor
