/- Worlds that have grown; expressions of switches, plain and in memory. -/
import Derived.Test.YtidnhafllbckcaaProg
import Derived.WalkKit
import Derived.RowKit
import Derived.OwnWalk
import Derived.Deep.Draws
import Derived.Laws.Rows
import Derived.Laws.MakeOwn
namespace Go.Proofs.Ytidnhafllbckcaa
open Go.RowKit
set_option linter.unusedVariables false

theorem hide {p : Prop} (h : p) : Hid p := h
theorem unhide {p : Prop} (h : Hid p) : p := h

theorem gr_refl (w : World) (r : Option Nat) : w.grownBy w r := ⟨rfl, rfl, rfl, Nat.le_refl _, fun _ _ _ => rfl⟩
theorem gr_trans {w w1 w2 : World} {r r1 r2 : Option Nat} (h : w.grownBy w1 r1) (k : w1.grownBy w2 r2) (h1 : ∀ b, b < w.heap.size → some b = r1 → some b = r) (h2 : ∀ b, b < w.heap.size → some b = r2 → some b = r) : w.grownBy w2 r :=
  ⟨k.os.trans h.os, k.tape.trans h.tape, k.output.trans h.output, Nat.le_trans h.size k.size, fun b hb hr =>
    (k.block b (Nat.lt_of_lt_of_le hb h.size) (fun e => hr (h2 b hb e))).trans (h.block b hb (fun e => hr (h1 b hb e)))⟩
theorem gr_none {w w1 w2 : World} (h : w.grownBy w1 none) (k : w1.grownBy w2 none) : w.grownBy w2 none :=
  gr_trans h k (fun _ _ e => e) (fun _ _ e => e)
theorem gr_tail {w w1 w2 : World} {r : Option Nat} (h : w.grownBy w1 none) (k : w1.grownBy w2 r) : w.grownBy w2 r := gr_trans h k (fun _ _ e => by cases e) (fun _ _ e => e)
theorem gr_in {w w1 w2 : World} {g : Nat} (h : w.grownBy w1 none) (k : w1.grownBy w2 (some g)) (hg : w.heap.size ≤ g) : w.grownBy w2 none :=
  gr_trans h k (fun _ _ e => e) (fun b hb e => by cases e; omega)
theorem gr_drewN {w w1 : World} {r : Option Nat} (h : w.grownBy w1 r) (n : Nat) : w.grownBy (w1.drewN n) r := ⟨h.os, h.tape, h.output, h.size, h.block⟩
theorem gr_drew {w w1 : World} {r : Option Nat} (h : w.grownBy w1 r) : w.grownBy w1.drew r := ⟨h.os, h.tape, h.output, h.size, h.block⟩
theorem gr_alloc {w w1 : World} {r : Option Nat} (h : w.grownBy w1 r) (o : Obj) : w.grownBy (w1.alloc o) r :=
  gr_trans h (World.grownBy_alloc w1 o none) (fun _ _ e => e) (fun _ _ e => by cases e)
theorem gr_set {w w1 : World} {r : Option Nat} (h : w.grownBy w1 r) (a : Addr) (v : Value) (ha : w.heap.size ≤ a.block) : w.grownBy (w1.setCell a v) r :=
  gr_trans (r2 := some a.block) h ⟨rfl, rfl, rfl, by simp, fun k _ hr => heap_setCell_other _ _ _ _ (fun e => hr (by rw [e]))⟩ (fun _ _ e => e) (fun b hb e => by cases e; omega)
theorem gr_below {w w1 : World} (h : w.grownBy w1 none) : Below w.heap.size w w1 := ⟨h.os, h.tape, h.output, h.size, fun k hk => h.block k hk (by simp)⟩
theorem gr_cell {w w' : World} {a : Addr} {v : Value} (g : w.grownBy w' none) (h : w.cell? a = some v) : w'.cell? a = some v := g.cell h (by simp)

/-- Block b holds these cells, and may be written to. -/
def BoxC (w : World) (b : Nat) (cs : Array Value) : Prop := ∃ T, w.heap[b]? = some (Obj.cells cs T (0, 0))

section
variable {w w' : World} {b b' : Nat} {cs : Array Value}
theorem BoxC.lt (h : BoxC w b cs) : b < w.heap.size := by
  obtain ⟨T, h⟩ := h
  exact (Array.getElem?_eq_some_iff.1 h).1
theorem BoxC.keep0 (h : BoxC w b cs) (g : w.grownBy w' none) : BoxC w' b cs := by
  have hl := h.lt
  obtain ⟨T, h⟩ := h
  exact ⟨T, by rw [g.block b hl (by simp)]; exact h⟩
theorem BoxC.keepO {r : Option Nat} (h : BoxC w b cs) (g : w.grownBy w' r) (hr : some b ≠ r) : BoxC w' b cs := by
  have hl := h.lt
  obtain ⟨T, h⟩ := h
  exact ⟨T, by rw [g.block b hl hr]; exact h⟩
theorem boxNew (w : World) (cs : Array Value) (T : TypeId) : BoxC (w.alloc (Obj.cells cs T)) w.heap.size cs := ⟨T, heap_alloc_new w _⟩
theorem boxNew' (w : World) (cs : Array Value) (T : TypeId) (b : Nat) (hb : w.heap.size = b) : BoxC (w.alloc (Obj.cells cs T)) b cs := hb ▸ boxNew w cs T
theorem BoxC.cell (h : BoxC w b cs) (i : Nat) : w.cell? ⟨b, i, none⟩ = cs[i]? := by
  obtain ⟨T, h⟩ := h
  simp [World.cell?, h]
theorem BoxC.fro (h : BoxC w b cs) (i : Nat) : w.frozen? ⟨b, i, none⟩ = false := by
  obtain ⟨T, h⟩ := h
  simp [World.frozen?, h]
theorem BoxC.set (h : BoxC w b cs) (i : Nat) (v : Value) : BoxC (w.setCell ⟨b, i, none⟩ v) b (cs.setIfInBounds i v) := by
  obtain ⟨T, h⟩ := h
  exact ⟨T, heap_setCell_same w b i cs T v h⟩
theorem BoxC.setO (h : BoxC w b cs) (i : Nat) (v : Value) (hb : b ≠ b') : BoxC (w.setCell ⟨b', i, none⟩ v) b cs := by
  obtain ⟨T, h⟩ := h
  exact ⟨T, by rw [heap_setCell_other w ⟨b', i, none⟩ b v hb]; exact h⟩
theorem BoxC.c4 {a0 a1 a2 a3 : Value} (h : BoxC w b #[a0, a1, a2, a3]) : w.cell? ⟨b, 0, none⟩ = some a0 ∧ w.cell? ⟨b, 1, none⟩ = some a1 ∧ w.cell? ⟨b, 2, none⟩ = some a2 ∧ w.cell? ⟨b, 3, none⟩ = some a3 :=
  ⟨h.cell 0, h.cell 1, h.cell 2, h.cell 3⟩
theorem BoxC.f4 (h : BoxC w b cs) : w.frozen? ⟨b, 0, none⟩ = false ∧ w.frozen? ⟨b, 1, none⟩ = false ∧ w.frozen? ⟨b, 2, none⟩ = false ∧ w.frozen? ⟨b, 3, none⟩ = false :=
  ⟨h.fro 0, h.fro 1, h.fro 2, h.fro 3⟩
end

/-- An expression of at most n levels: what kind, which input, opposite, those below. -/
def Ex : Nat → Type
  | 0 => Empty
  | n + 1 => Int × Int × Bool × List (Ex n)

/-- Four cells of memory hold an expression. -/
def WayC (w : World) : (n : Nat) → Value → Value → Value → Value → Ex n → Prop
  | 0, _, _, _, _, _ => False
  | n + 1, c0, c1, c2, c3, t => c0 = .int .i64 t.1 ∧ c1 = .int .i64 t.2.1 ∧ c2 = .bool t.2.2.1 ∧ ∃ ao cap, c3 = .slice ao t.2.2.2.length cap ∧ t.2.2.2.length ≤ cap ∧ cap ≤ maxLen ∧
      ∀ j (h : j < t.2.2.2.length), ∃ b off, ao = some ⟨b, off, none⟩ ∧ b < w.heap.size ∧ ∃ d0 d1 d2 d3, w.cell? ⟨b, off + j * 4, none⟩ = some d0 ∧ w.cell? ⟨b, off + j * 4 + 1, none⟩ = some d1 ∧ w.cell? ⟨b, off + j * 4 + 2, none⟩ = some d2 ∧ w.cell? ⟨b, off + j * 4 + 3, none⟩ = some d3 ∧ WayC w n d0 d1 d2 d3 (t.2.2.2[j])

theorem WayC.keep : ∀ {n : Nat} {w w' : World} {c0 c1 c2 c3 : Value} {t : Ex n}, WayC w n c0 c1 c2 c3 t → w.grownBy w' none → WayC w' n c0 c1 c2 c3 t
  | 0, _, _, _, _, _, _, _, h, _ => h
  | n + 1, w, w', c0, c1, c2, c3, t, h, g => by
    obtain ⟨e0, e1, e2, ao, cap, e3, h1, h2, h3⟩ := h
    refine ⟨e0, e1, e2, ao, cap, e3, h1, h2, fun j hj => ?_⟩
    obtain ⟨b, off, e, hb, d0, d1, d2, d3, k0, k1, k2, k3, hk⟩ := h3 j hj
    exact ⟨b, off, e, Nat.lt_of_lt_of_le hb g.size, d0, d1, d2, d3, gr_cell g k0, gr_cell g k1, gr_cell g k2, gr_cell g k3, hk.keep g⟩

/-- A row of expressions: of the slice's cells. -/
def WayR (w : World) (n : Nat) (ao : Option Addr) (l : List (Ex n)) : Prop :=
  ∀ j (h : j < l.length), ∃ b off, ao = some ⟨b, off, none⟩ ∧ b < w.heap.size ∧ ∃ d0 d1 d2 d3, w.cell? ⟨b, off + j * 4, none⟩ = some d0 ∧ w.cell? ⟨b, off + j * 4 + 1, none⟩ = some d1 ∧ w.cell? ⟨b, off + j * 4 + 2, none⟩ = some d2 ∧ w.cell? ⟨b, off + j * 4 + 3, none⟩ = some d3 ∧ WayC w n d0 d1 d2 d3 (l[j])

theorem WayR.keep {n : Nat} {w w' : World} {ao : Option Addr} {l : List (Ex n)} (h : WayR w n ao l) (g : w.grownBy w' none) : WayR w' n ao l := fun j hj => by
  obtain ⟨b, off, e, hb, d0, d1, d2, d3, k0, k1, k2, k3, hk⟩ := h j hj
  exact ⟨b, off, e, Nat.lt_of_lt_of_le hb g.size, d0, d1, d2, d3, gr_cell g k0, gr_cell g k1, gr_cell g k2, gr_cell g k3, hk.keep g⟩

theorem WayC.open {n : Nat} {w : World} {c0 c1 c2 c3 : Value} {t : Ex (n + 1)} (h : WayC w (n + 1) c0 c1 c2 c3 t) :
    ∃ k i b l ao cap, t = (k, i, b, l) ∧ c0 = .int .i64 k ∧ c1 = .int .i64 i ∧ c2 = .bool b ∧ c3 = .slice ao l.length cap ∧ l.length ≤ cap ∧ cap ≤ maxLen ∧ WayR w n ao l := by
  obtain ⟨k, i, b, l⟩ := t
  obtain ⟨e0, e1, e2, ao, cap, e3, h1, h2, h3⟩ := h
  exact ⟨k, i, b, l, ao, cap, rfl, e0, e1, e2, e3, h1, h2, h3⟩

theorem WayC.mk {n : Nat} {w : World} {k i : Int} {b : Bool} {l : List (Ex n)} {ao : Option Addr} {cap : Nat} (h1 : l.length ≤ cap) (h2 : cap ≤ maxLen) (h3 : WayR w n ao l) :
    WayC w (n + 1) (.int .i64 k) (.int .i64 i) (.bool b) (.slice ao l.length cap) (k, i, b, l) := ⟨rfl, rfl, rfl, ao, cap, rfl, h1, h2, h3⟩

/-- The four cells as they are read. -/
theorem WayC.cells {n : Nat} {w : World} {c0 c1 c2 c3 : Value} {t : Ex n} (h : WayC w n c0 c1 c2 c3 t) : ∃ (k i : Int) (b : Bool) (ao : Option Addr) (len cap : Nat), c0 = .int .i64 k ∧ c1 = .int .i64 i ∧ c2 = .bool b ∧ c3 = .slice ao len cap := by
  match n, t, h with
  | 0, t, h => exact h.elim
  | n + 1, t, h =>
    obtain ⟨k, i, b, l, ao, cap, _, e0, e1, e2, e3, _⟩ := h.open
    exact ⟨k, i, b, ao, l.length, cap, e0, e1, e2, e3⟩

theorem ne_beq {a b : Int} (h : a ≠ b) : (a == b) = false := by simpa using h
theorem eq_beq {a b : Int} (h : a = b) : (a == b) = true := by simpa using h

/-- A slice of whole numbers. -/
def IntR (w : World) (v : Value) (xs : List Int) : Prop := ∃ ao cap, v = .slice ao xs.length cap ∧ xs.length ≤ cap ∧ cap ≤ maxLen ∧
  ∀ j (h : j < xs.length), ∃ b off, ao = some ⟨b, off, none⟩ ∧ b < w.heap.size ∧ w.cell? ⟨b, off + j, none⟩ = some (.int .i64 xs[j])

theorem IntR.keep {w w' : World} {v : Value} {xs : List Int} (h : IntR w v xs) (g : w.grownBy w' none) : IntR w' v xs := by
  obtain ⟨ao, cap, e, h1, h2, h3⟩ := h
  refine ⟨ao, cap, e, h1, h2, fun j hj => ?_⟩
  obtain ⟨b, off, e, hb, hc⟩ := h3 j hj
  exact ⟨b, off, e, Nat.lt_of_lt_of_le hb g.size, gr_cell g hc⟩
end Go.Proofs.Ytidnhafllbckcaa
