/- Arrays of words that a call makes itself; worlds that have grown. -/
import Derived.Test.YtfhamfgcjdhmdaaDoorProg
import Derived.RowKit
import Derived.Test.YtfhamfgcjdhmdaaDoorBase
import Derived.OwnWalk
import Derived.Laws.Rows
import Derived.Laws.MakeOwn
namespace Go.Proofs.YtfhamfgcjdhmdaaDoor
open Go.RowKit

def wordCells (xs : List Nat) : Array Value := (xs.map fun x : Nat => Value.int .u32 x).toArray

theorem wordCells_size (xs : List Nat) : (wordCells xs).size = xs.length := by simp [wordCells]
theorem wordCells_get (xs : List Nat) (i : Nat) (h : i < xs.length) : (wordCells xs)[i]? = some (.int .u32 (xs[i] : Nat)) := by simp [wordCells, h]
theorem wordCells_set (xs : List Nat) (i v : Nat) : (wordCells xs).setIfInBounds i (.int .u32 (v : Nat)) = wordCells (xs.set i v) := by
  simp [wordCells, List.map_set]

/-- Block g is an array of words, all of it known, none of it frozen. -/
def Arr (w : World) (g : Nat) (xs : List Nat) : Prop := w.heap[g]? = some (.cells (wordCells xs) 79 (0, 0))

theorem Arr.lt {w : World} {g : Nat} {xs : List Nat} (h : Arr w g xs) : g < w.heap.size := (Array.getElem?_eq_some_iff.1 h).1
theorem Arr.cell {w : World} {g : Nat} {xs : List Nat} (h : Arr w g xs) (i : Nat) (hi : i < xs.length) : w.cell? ⟨g, i, none⟩ = some (.int .u32 (xs[i] : Nat)) := by
  unfold Arr at h
  simp [World.cell?, h, wordCells_get xs i hi]
theorem Arr.free {w : World} {g : Nat} {xs : List Nat} (h : Arr w g xs) (i : Nat) : w.frozen? ⟨g, i, none⟩ = false := by
  unfold Arr at h
  simp [World.frozen?, h]
theorem Arr.set {w : World} {g : Nat} {xs : List Nat} (h : Arr w g xs) (i v : Nat) : Arr (w.setCell ⟨g, i, none⟩ (.int .u32 (v : Nat))) g (xs.set i v) := by
  unfold Arr at h ⊢
  rw [heap_setCell_same w g i _ _ _ h, wordCells_set]
theorem Arr.drewN {w : World} {g : Nat} {xs : List Nat} (h : Arr w g xs) (n : Nat) : Arr (w.drewN n) g xs := h
theorem Arr.keep {w w' : World} {g : Nat} {xs : List Nat} {row : Option Nat} (h : Arr w g xs) (hg : w.grownBy w' row) (hr : some g ≠ row) : Arr w' g xs := by
  have hl := h.lt
  unfold Arr at h ⊢
  rw [hg.block g hl hr, h]
theorem Arr.ws {w : World} {g : Nat} {xs : List Nat} (h : Arr w g xs) (hs : Sm xs) (hm : xs.length ≤ maxLen) : Ws w (.slice (some ⟨g, 0, none⟩) xs.length xs.length) xs :=
  ⟨hs, .inr ⟨g, 0, xs.length, rfl, h.lt, Nat.le_refl _, hm, fun i hi => by rw [Nat.zero_add]; exact h.cell i hi⟩⟩

theorem gr_refl (w : World) (r : Option Nat) : w.grownBy w r := ⟨rfl, rfl, rfl, Nat.le_refl _, fun _ _ _ => rfl⟩
theorem gr_trans {w w1 w2 : World} {r r1 r2 : Option Nat} (h : w.grownBy w1 r1) (k : w1.grownBy w2 r2) (h1 : ∀ b, b < w.heap.size → some b = r1 → some b = r) (h2 : ∀ b, b < w.heap.size → some b = r2 → some b = r) : w.grownBy w2 r :=
  ⟨k.os.trans h.os, k.tape.trans h.tape, k.output.trans h.output, Nat.le_trans h.size k.size, fun b hb hr =>
    (k.block b (Nat.lt_of_lt_of_le hb h.size) (fun e => hr (h2 b hb e))).trans (h.block b hb (fun e => hr (h1 b hb e)))⟩
theorem gr_none {w w1 w2 : World} (h : w.grownBy w1 none) (k : w1.grownBy w2 none) : w.grownBy w2 none :=
  gr_trans h k (fun _ _ e => e) (fun _ _ e => e)
theorem gr_drewN {w w1 : World} {r : Option Nat} (h : w.grownBy w1 r) (n : Nat) : w.grownBy (w1.drewN n) r := ⟨h.os, h.tape, h.output, h.size, h.block⟩
theorem gr_alloc {w w1 : World} {r : Option Nat} (h : w.grownBy w1 r) (o : Obj) : w.grownBy (w1.alloc o) r :=
  gr_trans h (World.grownBy_alloc w1 o none) (fun _ _ e => e) (fun _ _ e => by cases e)
theorem gr_set {w w1 : World} {r : Option Nat} (h : w.grownBy w1 r) (a : Addr) (v : Value) (ha : w.heap.size ≤ a.block) : w.grownBy (w1.setCell a v) r :=
  gr_trans (r2 := some a.block) h ⟨rfl, rfl, rfl, by simp, fun k _ hr => heap_setCell_other _ _ _ _ (fun e => hr (by rw [e]))⟩ (fun _ _ e => e) (fun b hb e => by cases e; omega)
theorem gr_below {w w1 : World} (h : w.grownBy w1 none) : Below w.heap.size w w1 := ⟨h.os, h.tape, h.output, h.size, fun k hk => h.block k hk (by simp)⟩

theorem made_words (n : Nat) : (madeCells (Value.int .u32 0).cells (n * 1)) = wordCells (List.replicate n 0) := by
  apply Array.ext
  · simp [madeCells, wordCells_size]
  · intro i h1 h2
    simp [madeCells, wordCells, Value.cells, Nat.mod_one]

/-- 'make([]uint32, n)'. -/
theorem wpList_make_words {P : Program} (w : World) {ops : Array Oper} {rest : List Oper} {o : Oper} {a : Act} {Q : Exit → Act → World → Prop}
    (hg : o.guard = none) (l c : Operand) (t : TypeId) (hop : o.op = Op.makeSlice t l c)
    (h1 : P.underlying t = some (.slice 79)) (hinfo : (P.info? 79).map (fun i => (i.zero, i.size, i.bytes)) = some (some (.int .u32 0), 1, 4))
    (kl kc : IntKind) (L C : Int) (n : Nat) (hl : a.eval l = .int kl L) (hc : a.eval c = .int kc C) (hL : L = (n : Int)) (hC : C = (n : Int)) (b2 : n ≤ 1073741824)
    (hK : ∀ w', Arr w' w.heap.size (List.replicate n 0) → w.grownBy w' none → wpList P ops Q rest (a.put o.dst (.slice (some ⟨w.heap.size, 0, none⟩) n n)) w') :
    wpList P ops Q (o :: rest) a w := by
  obtain ⟨i, hi, hz0, hz1, hz2⟩ := info_parts hinfo
  refine wpList_make_full w hg l c t hop w.heap.size 79 i (.int .u32 0) 1 h1 hi hz0 hz1 kl kc L C n hl hc hL hC (by rw [hz2]; omega) (by unfold maxLen; omega) (Nat.le_refl _) ?_
  intro w' hown hgr
  refine hK w' ?_ hgr
  obtain ⟨_, h⟩ := hown
  rcases h with ⟨h, _⟩ | ⟨g, cap, cur, h, _, hh, _, _, hsz, ht⟩
  · simp at h
  · simp only [Value.slice.injEq, Option.some.injEq, Addr.mk.injEq, and_true, true_and] at h
    obtain ⟨rfl, rfl⟩ := h
    unfold Arr
    rw [hh]
    have : cur = wordCells (List.replicate n 0) := by
      rw [← made_words]
      apply Array.ext'
      rw [← ht, List.take_of_length_le (by simp [hsz])]
    rw [this]

/-- v holds the number n, in trimmed words, at most L of them. -/
structure Num (w : World) (v : Value) (n L : Nat) : Prop where
  ex : ∃ xs, Ws w v xs ∧ Tr xs ∧ val xs = n ∧ xs.length ≤ L

theorem Num.keep {w w' : World} {v : Value} {n L : Nat} {row : Option Nat} (h : Num w v n L) (hg : w.grownBy w' row) (hr : ∀ k, row = some k → blockOf v ≠ some k) : Num w' v n L := by
  obtain ⟨xs, h1, h2, h3, h4⟩ := h
  exact ⟨xs, h1.keep hg hr, h2, h3, h4⟩
theorem Num.keep0 {w w' : World} {v : Value} {n L : Nat} (h : Num w v n L) (hg : w.grownBy w' none) : Num w' v n L := h.keep hg (fun _ e => by cases e)
theorem Ws.keep0 {w w' : World} {v : Value} {xs : List Nat} (h : Ws w v xs) (hg : w.grownBy w' none) : Ws w' v xs := h.keep hg (fun _ e => by cases e)
theorem Num.mono {w : World} {v : Value} {n L L' : Nat} (h : Num w v n L) (hl : L ≤ L') : Num w v n L' := by
  obtain ⟨xs, h1, h2, h3, h4⟩ := h
  exact ⟨xs, h1, h2, h3, Nat.le_trans h4 hl⟩

/-- What is in new memory, seen from w. -/
def Fresh (w : World) (v : Value) : Prop := ∀ k, blockOf v = some k → w.heap.size ≤ k

theorem Tryd.info32 : (Tryd.prog.info? 79).map (fun i => (i.zero, i.size, i.bytes)) = some (some (.int .u32 0), 1, 4) := by kernel_rfl
end Go.Proofs.YtfhamfgcjdhmdaaDoor
