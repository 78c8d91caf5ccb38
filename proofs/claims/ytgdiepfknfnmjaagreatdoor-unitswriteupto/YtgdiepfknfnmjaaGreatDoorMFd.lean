/- frac: its contracts over the rational numbers. -/
import Derived.Test.YtgdiepfknfnmjaaGreatDoorFArith2
import Derived.Test.YtgdiepfknfnmjaaGreatDoorMBase
import Derived.Test.YtgdiepfknfnmjaaGreatDoorShelf
import Derived.Lib.ItoaMem
import Derived.Lib.ItoaNum
import Derived.Lib.Walk
import Derived.Shelf.Strings.Builder2
import Derived.Test.YtgdiepfknfnmjaaGreatDoorMFb
import Derived.Test.YtgdiepfknfnmjaaGreatDoorFGcd
namespace Go.Proofs.YtgdiepfknfnmjaaGreatDoor
open Go.RowKit
set_option linter.unusedVariables false

/-- v is the number q. -/
def FQ (w : World) (v : Value) (q : Rat) (L : Nat) : Prop := FV w v (rB q) (rN q) q.den L

/-- What a call answers that answers a number. -/
def FQE (w : World) (q : Rat) (L : Nat) (e : Ending) (w' : World) : Prop := ∃ v, e = .returned v ∧ FQ w' v q L ∧ w.grownBy w' none

theorem FQ.keep0 {w w' : World} {v : Value} {q : Rat} {L : Nat} (h : FQ w v q L) (hg : w.grownBy w' none) : FQ w' v q L := FV.keep0 h hg
theorem FQ.mono {w : World} {v : Value} {q : Rat} {L L' : Nat} (h : FQ w v q L) (hl : L ≤ L') : FQ w v q L' := by
  obtain ⟨up, down, e, h1, h2, h3, h4⟩ := h
  refine ⟨up, down, e, h1.mono hl, ?_, h3, h4⟩
  rcases h2 with h2 | ⟨h2, h5⟩
  · exact .inl h2
  · exact .inr ⟨h2.mono hl, h5⟩
theorem FQ.shape {w : World} {v : Value} {q : Rat} {L : Nat} (h : FQ w v q L) : ∃ uo ul uc do_ dl dc, v = .agg #[.bool (rB q), .slice uo ul uc, .slice do_ dl dc] := FV.shape h

theorem lowQ_mk (b : Bool) (n d : Nat) : lowQ b n d = (rB (mkRat (sgq b n) d), rN (mkRat (sgq b n) d), (mkRat (sgq b n) d).den) := by
  unfold lowQ
  by_cases h : n = 0 ∨ d = 0
  · rw [if_pos h, mk_zero b n d h]
    rfl
  · rw [if_neg h]
    obtain ⟨h1, h2, h3⟩ := mk_parts b n d (fun e => h (.inl e)) (fun e => h (.inr e))
    unfold rB rN
    rw [h1, h2, h3]

theorem LowE.q {w : World} {b : Bool} {n d L : Nat} {q : Rat} (hq : mkRat (sgq b n) d = q) {e : Ending} {w' : World} (h : LowE w (lowQ b n d).1 (lowQ b n d).2.1 (lowQ b n d).2.2 L e w') : FQE w q L e w' := by
  rw [lowQ_mk, hq] at h
  exact h

theorem qTimes_at (x y : Value) (p q : Rat) (L1 L2 : Nat) (w : World) (hx : FQ w x p L1) (hy : FQ w y q L2) (hl : L1 + L2 ≤ 700000000) :
    Calls Tryz.prog 18 #[x, y] w fun e w' => FQE w (p * q) (L1 + L2 + 1) e w' := by
  refine (fTimes_at x y _ _ _ _ L1 _ _ L2 w hx hy hl).mono ?_
  intro e w' h
  exact LowE.q (q_mul p q) h

/-- What a text counts as. -/
def ofR (l : List UInt8) : Rat :=
  if allD (Lib.cut (Lib.trimPrefix l [45]) [47]).1 && allD (downOf (Lib.trimPrefix l [45])) then
    mkRat (sgq (Lib.hasPrefix l [45]) (decL (Lib.cut (Lib.trimPrefix l [45]) [47]).1)) (decL (downOf (Lib.trimPrefix l [45])))
  else 0

theorem ofQ_R (l : List UInt8) : ofQ l = (rB (ofR l), rN (ofR l), (ofR l).den) := by
  unfold ofQ ofR
  split
  · exact lowQ_mk _ _ _
  · rfl

theorem qOf_at (s : ByteArray) (m : Int) (w : World) (hs : s.size ≤ 600000000) (hml : w.cell? ⟨5, 0, none⟩ = some (.int .i64 m)) :
    Calls Tryz.prog 17 #[.string s] w fun e w' => FQE w (ofR s.data.toList) (s.size + 1) e w' := by
  refine (of_at s m w hs hml).mono ?_
  intro e w' h
  unfold OfE at h
  rw [ofQ_R] at h
  exact h
end Go.Proofs.YtgdiepfknfnmjaaGreatDoor

namespace Go.Proofs.YtgdiepfknfnmjaaGreatDoor
open Go.RowKit Go.Sort
set_option linter.unusedVariables false

/-- The library's table of powers of ten lies there. -/
def Tab10 (w : World) : Prop := Lib.TabIs Tryz.prog w "internal/strconv.uint64pow10" .u64 Lib.pow10Tab

theorem Tab10.keep0 {w w' : World} (h : Tab10 w) (hg : w.grownBy w' none) : Tab10 w' := by
  unfold Tab10 Lib.TabIs World.var? at *
  cases hn : Tryz.prog.globalNamed "internal/strconv.uint64pow10" with
  | none => simp [hn] at h
  | some g =>
    simp only [hn, Option.bind_some] at h ⊢
    have hlt : g < w.heap.size := by
      rcases Nat.lt_or_ge g w.heap.size with h' | h'
      · exact h'
      · rw [Array.getElem?_eq_none h'] at h; simp at h
    rw [hg.block g hlt (by simp)]
    exact h

theorem gr_grow {w : World} (k : Nat) (os : Array Obj) : w.grownBy (grow (w.drewN k) os) none := by
  refine ⟨rfl, rfl, rfl, ?_, ?_⟩
  · simp [grow]
  · intro b hb _
    show (w.heap ++ os)[b]? = w.heap[b]?
    rw [Array.getElem?_append_left hb]

theorem holds_zero0 (w : World) (T : TypeId) (nd : Nat) (hs : nd ≤ 24) : Holds (fun (b : UInt8) => Value.int .u8 (b.toNat : Int)) (w.alloc (.cells Lib.zeros24 T)) w.heap.size 0 (Array.replicate nd (0 : UInt8)) := fun j hj => by
  have hj' : j < nd := by simpa using hj
  refine ⟨?_, World.frozen?_alloc_new _ _ _ _⟩
  rw [World.cell?_alloc_new, Lib.zeros24_at _ (by omega), getElem!_pos _ j hj]
  simp

theorem fin_zero (w : World) (o : Obj) (dk : Array UInt8) (k : Nat) : ∃ os, (putRow (fun (b : UInt8) => Value.int .u8 (b.toNat : Int)) (w.alloc o) w.heap.size 0 dk).drewN k = grow (w.drewN k) os := by
  rw [alloc_eq_grow]
  obtain ⟨os', _, e⟩ := putRow_grow_new (fun (b : UInt8) => Value.int .u8 (b.toNat : Int)) w #[o] w.heap.size 0 dk (Nat.le_refl _)
  exact ⟨os', by rw [e]; rfl⟩

set_option maxHeartbeats 6400000 in
set_option maxRecDepth 100000 in
theorem formatUintI_at (u : Nat) (w : World) (hu64 : u < 18446744073709551616) (htab : Tab10 w) :
    Calls Tryz.prog 142 #[.int .u64 (u : Nat), .int .i64 10] w fun e w' => e = .returned (.string ⟨(Lib.decDigits u).toArray⟩) ∧ w.grownBy w' none := by
  by_cases hs : u < 100
  · go_enter Tryz.func142, Tryz.ntmps142
    go_wp2_with fail
    refine (Tryz.internal_strconv_small u hs _).mono ?_
    rintro e w' ⟨rfl, rfl⟩
    go_wp2
    go_ret
    exact ⟨rfl, gr_refl _ _⟩
  · have hu1 : 1 ≤ u := by omega
    have hnd20 : Lib.nDigits u ≤ 20 := by have := Lib.numDigits_eq u hu1 hu64; split at this <;> omega
    have hal : Tryz.prog.arrayLen 178 = 24 := by kernel_rfl
    have hsl : ∀ W, (Instr.sliceAt 178 (.pointer (some ⟨w.heap.size, 0, none⟩)) none (some (.int .i64 (Lib.nDigits u : Int))) none).run Tryz.prog W = .ok (.slice (some ⟨w.heap.size, 0, none⟩) (Lib.nDigits u) 24) W := fun W => by
      rw [run_sliceAt_array_h W 178 ⟨w.heap.size, 0, none⟩ (by simp [Program.arrayLen, Program.elem, Tryz.underlying178]) .i64 (Lib.nDigits u : Int) (by omega) (by rw [hal]; omega)]
      go_simp
    have hH0 := holds_zero0 w 178 (Lib.nDigits u) (by omega)
    have hfmt := Tryz.internal_strconv_formatBase10 w.heap.size 0 24 u (Array.replicate (Lib.nDigits u) 0) (w.alloc (.cells Lib.zeros24 178)) hH0 (by rw [Array.size_replicate]; exact Lib.lt_pow_nDigits u) hu64 (by rw [Array.size_replicate]; omega)
    rw [Array.size_replicate] at hfmt
    have HH0 := Lib.hid hH0
    have HF0 := Lib.hid hfmt
    clear hH0 hal hfmt
    go_enter Tryz.func142, Tryz.ntmps142
    go_wp2_with fail
    refine (Tryz.internal_strconv_numDigits u hu1 hu64 _ (Lib.tabIs_alloc htab _)).mono ?_
    rintro e w' ⟨rfl, rfl⟩
    go_wp2_with fail
    refine HF0.out.mono ?_
    rintro e w' ⟨rfl, k, v', dk, rfl, hF⟩
    have hcv : (convert 108 9 (.slice (some ⟨w.heap.size, 0, none⟩) (Lib.nDigits u) 24)).run Tryz.prog ((putRow (fun (b : UInt8) => Value.int .u8 (b.toNat : Int)) (w.alloc (.cells Lib.zeros24 178)) w.heap.size 0 dk).drewN k) = .ok (.string ⟨(Lib.decDigits u).toArray⟩) ((putRow (fun (b : UInt8) => Value.int .u8 (b.toNat : Int)) (w.alloc (.cells Lib.zeros24 178)) w.heap.size 0 dk).drewN k) := by
      have h := run_convert_bytes_back (P := Tryz.prog) ((putRow (fun (b : UInt8) => Value.int .u8 (b.toNat : Int)) (w.alloc (.cells Lib.zeros24 178)) w.heap.size 0 dk).drewN k) 108 9 5 ⟨w.heap.size, 0, none⟩ 24 (Lib.decDigits u) Tryz.underlying108 Tryz.underlying5 Tryz.underlying9 (fun j hj => by
        rw [Lib.row_is_numeral hF j hj, Lib.add_plain, World.cell?_drewN]
        exact cell?_putRow (fun (b : UInt8) => Value.int .u8 (b.toNat : Int)) _ w.heap.size 0 _ dk HH0.out (by rw [hF.size, Array.size_replicate]) j (by rw [hF.size]; rw [Lib.decDigits_length] at hj; exact hj))
      rw [Lib.decDigits_length] at h
      exact h
    go_wp2
    go_ret
    obtain ⟨os, eo⟩ := fin_zero w (.cells Lib.zeros24 178) dk k
    rw [eo]
    exact ⟨rfl, gr_grow _ _⟩

set_option maxHeartbeats 1000000 in
theorem formatUint_at (u : Nat) (w : World) (hu64 : u < 18446744073709551616) (htab : Tab10 w) :
    Calls Tryz.prog 113 #[.int .u64 (u : Nat), .int .i64 10] w fun e w' => e = .returned (.string ⟨(Lib.decDigits u).toArray⟩) ∧ w.grownBy w' none := by
  have H := hide htab
  clear htab
  go_enter Tryz.func113, Tryz.ntmps113
  go_wp2_with fail
  refine (formatUintI_at u _ hu64 H.out).mono ?_
  rintro e w' ⟨rfl, h⟩
  have HG := hide h
  clear h
  go_wp2
  go_ret
  exact ⟨rfl, HG.out⟩
end Go.Proofs.YtgdiepfknfnmjaaGreatDoor

namespace Go.Proofs
open Go.RowKit
set_option maxRecDepth 10000

def Tryz.wsRen : Go.Shelf.Ren := ⟨fun | 166 => 114 | 240 => 143 | 276 => 164 | n => n, fun | 0 => 0 | 3 => 3 | 4 => 4 | 9 => 9 | 20 => 20 | 37 => 108 | 70 => 135 | 72 => 137 | 75 => 140 | 164 => 182 | 5 => 5 | 80 => 75 | n => n, fun | n => n⟩
theorem Tryz.wsLays : Go.Proofs.Lays.n166 Tryz.prog Tryz.wsRen := {
  mixed := by kernel_rfl
  f166 := Tryz.func114.trans (congrArg some (by kernel_rfl))
  f240 := Tryz.func143.trans (congrArg some (by kernel_rfl))
  f276 := Tryz.func164.trans (congrArg some (by kernel_rfl))
  t0 := Tryz.underlying0
  a0 := Tryz.isAgg0
  z0 := Tryz.sizeOf0
  v0 := Tryz.zeroValue0
  t3 := Tryz.underlying3
  a3 := Tryz.isAgg3
  z3 := Tryz.sizeOf3
  v3 := Tryz.zeroValue3
  t4 := Tryz.underlying4
  a4 := Tryz.isAgg4
  z4 := Tryz.sizeOf4
  v4 := Tryz.zeroValue4
  t9 := Tryz.underlying9
  a9 := Tryz.isAgg9
  z9 := Tryz.sizeOf9
  v9 := Tryz.zeroValue9
  t20 := Tryz.underlying20
  a20 := Tryz.isAgg20
  z20 := Tryz.sizeOf20
  v20 := Tryz.zeroValue20
  t37 := Tryz.underlying108
  a37 := Tryz.isAgg108
  z37 := Tryz.sizeOf108
  v37 := Tryz.zeroValue108
  t70 := Tryz.underlying135
  a70 := Tryz.isAgg135
  z70 := Tryz.sizeOf135
  v70 := Tryz.zeroValue135
  t72 := Tryz.underlying137
  a72 := Tryz.isAgg137
  z72 := Tryz.sizeOf137
  v72 := Tryz.zeroValue137
  t75 := Tryz.underlying140
  a75 := Tryz.isAgg140
  z75 := Tryz.sizeOf140
  v75 := Tryz.zeroValue140
  t164 := Tryz.underlying182
  a164 := Tryz.isAgg182
  z164 := Tryz.sizeOf182
  v164 := Tryz.zeroValue182 }
theorem Tryz.wsExtra : Builder.Extra Tryz.prog Tryz.wsRen := {
  sizeBuilder := by kernel_rfl
  liesBuilder := by kernel_rfl
  t5 := Tryz.underlying5
  a5 := Tryz.isAgg5
  z5 := Tryz.sizeOf5
  v5 := Tryz.zeroValue5
  infoByte := by kernel_rfl
  cellsByte := by kernel_rfl
  sizeByte := by kernel_rfl
  neB5 := by decide }
end Go.Proofs

namespace Go.Proofs.YtgdiepfknfnmjaaGreatDoor
open Go.RowKit
set_option linter.unusedVariables false

theorem gr_of_below' {w w' : World} (h : Below w.heap.size w w') : w.grownBy w' none := ⟨h.os, h.tape, h.output, h.size, fun k hk _ => h.block k hk⟩

/-- (*strings.Builder).WriteString. -/
theorem writeString_at (B b : Nat) (bs : List Value) (s : ByteArray) (w : World) (h : Lib.IsBuilder 137 5 B b bs w) (hlen : bs.length + s.size ≤ 140737488355328) (hBw : B ≤ w.heap.size) :
    Calls Tryz.prog 114 #[.pointer (some ⟨b, 0, none⟩), .string s] w fun e w' => e = .returned (.tuple #[.int .i64 s.size, .nilIface]) ∧ (Lib.BuilderAt 137 5 B b (.pointer (some ⟨b, 0, none⟩)) (bs ++ Lib.strCells s) w' ∧ Below B w w') :=
  Any.Builder_WriteString Tryz.wsLays Tryz.wsExtra B b bs s w h hlen hBw

/-- One word is appended to a []uint32. -/
theorem wpList_append_word (w : World) {ops : Array Oper} {rest : List Oper} {o : Oper} {a : Act} {Q : Exit → Act → World → Prop} (hg : o.guard = none) (x y : Operand) (hop : o.op = Op.call { callee := .builtin .append, args := #[x, y], argTypes := #[42, 42] }) (base : Nat) (v : Value) (l : List Nat) (hx : a.eval x = v) (g : Nat) (z : Int) (c : Nat) (hz : z = (c : Int)) (hy : a.eval y = .slice (some ⟨g, 0, none⟩) 1 1) (hcell : w.cell? ⟨g, 0, none⟩ = some (.int .u32 z)) (h : Own w base v l) (hl : l.length ≤ 1000000000) (hb : base ≤ w.heap.size)
    (hK : ∀ v' w', Own w' base v' (l ++ [c]) → w.grownBy w' (blockOf v) → wpList Tryz.prog ops Q rest (a.put o.dst v') w') :
    wpList Tryz.prog ops Q (o :: rest) a w := by
  obtain ⟨i0, hi0, hz0, hz1, hz2⟩ := info_parts Tryz.info32
  refine wpList_append_own w hg x y 42 hop base 96 i0 (.int .u32 0) 1 4 Tryz.underlying42 hi0 hz0 hz1 hz2 rfl (by decide) v l.length (wordCells l).toList hx h ⟨g, 0, none⟩ 1 1 [.int .u32 z] hy rfl ?_ ?_ (by unfold maxLen; omega) (by omega) hb ?_
  · intro j u hj
    match j with
    | 0 =>
      simp only [List.getElem?_cons_zero, Option.some.injEq] at hj
      subst hj
      simpa [Addr.add] using hcell
    | j + 1 => simp at hj
  · intro u hu
    simp only [List.mem_singleton] at hu
    subst hu
    rfl
  · intro v' w' hown hgr _
    refine hK v' w' ?_ (by rw [← ownBlock_eq]; exact hgr)
    unfold Own
    rw [List.length_append, List.length_singleton]
    have e : (wordCells (l ++ [c])).toList = (wordCells l).toList ++ [.int .u32 z] := by rw [hz]; simp [wordCells]
    rw [e]
    exact hown

theorem num_lt' {w : World} {v : Value} {n L : Nat} (h : Num w v n L) : n < 4294967296 ^ L := by
  obtain ⟨xs, h1, h2, h3, h4⟩ := h
  have := val_lt h1.sm
  rw [h3] at this
  exact Nat.lt_of_lt_of_le this (Nat.pow_le_pow_right (by decide) h4)

/-- The top chunk is none of noughts. -/
def TopC (cs : List Nat) : Prop := ∃ F c, cs = F ++ [c] ∧ c ≠ 0

theorem TopC.pos {cs : List Nat} (h : TopC cs) (i : Nat) (hi : i < cs.length) : 0 < chunkV 1000000000 (cs.drop i) := by
  obtain ⟨F, c, rfl, hc⟩ := h
  have hF : i ≤ F.length := by simp at hi; omega
  rw [List.drop_append_of_le_length hF, chunkV_snoc]
  have : 0 < 1000000000 ^ (F.drop i).length * c := Nat.mul_pos (Nat.pow_pos (by decide)) (by omega)
  omega

/-- text's first loop. -/
def ChkR (w : World) (B n L : Nat) (k : Nat) (cv lv : Value) (wr : World) : Prop :=
  ∃ (m : Nat) (cs : List Nat), Own wr B cv cs ∧ B ≤ wr.heap.size ∧ OwnN wr w.heap.size lv m L ∧ (∀ k, blockOf lv = some k → k < B) ∧ (∀ c ∈ cs, c < 1000000000) ∧ n = chunkV 1000000000 cs + 1000000000 ^ cs.length * m ∧ (m ≠ 0 ∨ TopC cs) ∧ w.grownBy wr none ∧ m = k

theorem chunk_len {n m L : Nat} {cs : List Nat} (h : n = chunkV 1000000000 cs + 1000000000 ^ cs.length * m) (hm : m ≠ 0) (hn : n < 4294967296 ^ L) : cs.length < 32 * L := by
  have h1 : 1000000000 ^ cs.length ≤ n := by
    have : 1000000000 ^ cs.length * 1 ≤ 1000000000 ^ cs.length * m := Nat.mul_le_mul_left _ (by omega)
    omega
  have h2 : 2 ^ cs.length ≤ 1000000000 ^ cs.length := Nat.pow_le_pow_left (by decide) _
  have h3 : 4294967296 ^ L = 2 ^ (32 * L) := by rw [Nat.pow_mul]
  rw [h3] at hn
  exact (Nat.pow_lt_pow_iff_right (a := 2) (by decide)).1 (by omega)

theorem chunk_step {n m : Nat} {cs : List Nat} (h : n = chunkV 1000000000 cs + 1000000000 ^ cs.length * m) : n = chunkV 1000000000 (cs ++ [m % 1000000000]) + 1000000000 ^ (cs ++ [m % 1000000000]).length * (m / 1000000000) := by
  rw [chunkV_snoc, List.length_append, List.length_singleton, Nat.pow_succ, h, Nat.mul_assoc, Nat.add_assoc, ← Nat.mul_add]
  congr 2
  omega

/-- What has been written. -/
def txtF (cs : List Nat) (k : Nat) : List UInt8 := if k = cs.length then [] else chunkT cs k

/-- A builder outlives what only makes new blocks. -/
theorem builder_keep {T e : TypeId} {B b : Nat} {bs : List Value} {w w' : World} (h : Lib.IsBuilder T e B b bs w) (hg : w.grownBy w' none) : Lib.IsBuilder T e B b bs w' := by
  have key : ∀ p, Lib.BuilderAt T e B b p bs w → Lib.BuilderAt T e B b p bs w' := by
    intro p hp
    have hlt := hp.lt
    obtain ⟨hB, v, hb, ho, hne⟩ := hp
    exact ⟨hB, v, by rw [hg.block b hlt (by simp)]; exact hb, World.ownsRow.kept ho hg (by cases hv : v.ownBlock <;> simp), hne⟩
  rcases h with h | h
  · exact .inl (key _ h)
  · exact .inr (key _ h)

theorem str_cells (l : List UInt8) : Lib.strCells ⟨l.toArray⟩ = Lib.byteCells l := by
  unfold Lib.strCells Lib.byteCells
  simp

theorem rep_zero (c : Nat) : Lib.repeatL [48] c = List.replicate c 48 := by
  induction c with
  | zero => rfl
  | succ c ih => rw [Lib.repeatL, ih, List.replicate_succ]; rfl

/-- text's second loop. -/
def WrtR (W : World) (cs : List Nat) (iv : Value) (wr : World) : Prop :=
  ∃ k : Nat, k ≤ cs.length ∧ iv = .int .i64 ((k : Int) - 1) ∧ Lib.IsBuilder 137 5 W.heap.size W.heap.size (Lib.byteCells (txtF cs k)) wr ∧ Below W.heap.size W wr ∧ W.heap.size ≤ wr.heap.size

theorem txt_len (cs : List Nat) (k : Nat) (hc : ∀ c ∈ cs, c < 1000000000) (hk : k ≤ cs.length) (ht : TopC cs) : (txtF cs k).length ≤ 9 * (cs.length - k) := by
  have key : ∀ d k, d = cs.length - k → k ≤ cs.length → (txtF cs k).length ≤ 9 * d := by
    intro d
    induction d with
    | zero =>
      intro k h1 h2
      have : k = cs.length := by omega
      rw [txtF, if_pos this]; simp
    | succ d ih =>
      intro k h1 h2
      have hk : k < cs.length := by omega
      have hcc := hc cs[k] (List.getElem_mem hk)
      have h9 : (Lib.decDigits cs[k]).length ≤ 9 := dec_len_le (by decide) hcc
      rw [txtF, if_neg (by omega)]
      by_cases hl : k + 1 = cs.length
      · rw [chunkT_last cs k hl]
        omega
      · have h2 := ih (k + 1) (by omega) (by omega)
        rw [txtF, if_neg hl] at h2
        rw [chunkT_step cs k (by omega) hcc (ht.pos (k + 1) (by omega))]
        simp
        omega
  exact key _ k rfl hk

set_option maxHeartbeats 4000000 in
set_option maxRecDepth 10000 in
theorem text_at (v : Value) (n L : Nat) (w : World) (h : Num w v n L) (hL : L ≤ 10000000) (ht : Tab10 w) :
    Calls Tryz.prog 68 #[v] w fun e w' => e = .returned (.string ⟨(Lib.decDigits n).toArray⟩) ∧ w.grownBy w' none := by
  obtain ⟨vo, vl, vc, rfl, hvl, hvc1, hvc2⟩ := h.shape
  have HT := hide ht
  have HN := hide h
  have HLT := hide (num_lt' h)
  unfold maxLen at hvc2
  clear ht h
  by_cases h0 : n = 0
  · obtain rfl : vl = 0 := hvl.2 h0
    subst h0
    clear hvl
    go_enter Tryz.func68, Tryz.ntmps68
    go_wp2
    go_ret
    refine ⟨?_, gr_refl _ _⟩
    rw [Lib.decDigits_one (by decide)]
    rfl
  · have hvl0 : 0 < vl := by
      rcases Nat.eq_zero_or_pos vl with e | e
      · exact absurd (hvl.1 e) h0
      · exact e
    have hvl1 : ((vl : Int) == 0) = false := by simp; omega
    clear hvl
    obtain ⟨xs, x1, x2, x3, x4⟩ := HN.out
    have X1 := hide x1
    have X2 := hide x2
    have X3 := hide x3
    clear x1 x2 x3
    go_enter Tryz.func68, Tryz.ntmps68
    go_wp2_with fail
    refine (fclone_own _ xs _ X1.out (by omega)).mono ?_
    rintro e w1 ⟨lv, rfl, l1, l2⟩
    obtain ⟨lo, lc, rfl, hlc1, hlc2, _⟩ := l1.open
    unfold maxLen at hlc2
    have L1 : Hid (OwnN w1 w.heap.size (.slice lo xs.length lc) n L) := ⟨xs, l1, X1.out.sm, X2.out, X3.out, x4⟩
    have LB := hide (fun k hk => (l1.fresh k hk).2)
    have L2 := hide l2
    clear l1 l2
    go_wp2
    go_loopg [3, 4] n (fun k cv lv wr => Hid (ChkR w w1.heap.size n L k cv lv wr))
    case atStart => exact ⟨n, [], own_nil _ _, Nat.le_refl _, L1.out, LB.out, by simp, by simp [chunkV], .inl h0, L2.out, rfl⟩
    case round =>
      obtain ⟨m, cs, r1, r2, r3, r4, r5, r6, r7, r8, rfl⟩ := hrel.out
      obtain ⟨co, cc, rfl, hcc1, hcc2, _⟩ := r1.open
      unfold maxLen at hcc2
      obtain ⟨lo2, ll2, lc2, rfl, hl2, hlc3, hlc4⟩ := r3.num.shape
      unfold maxLen at hlc4
      have R1 := hide r1
      have R3 := hide r3
      have R4 := hide r4
      have R5 := hide r5
      have R6 := hide r6
      have R7 := hide r7
      have R8 := hide r8
      clear r1 r3 r4 r5 r6 r7 r8 hrel
      by_cases hm : m = 0
      · obtain rfl : ll2 = 0 := hl2.2 hm
        subst hm
        clear hl2
        have TOP : TopC cs := by
          rcases R7.out with h | h
          · exact absurd rfl h
          · exact h
        have HTOP := hide TOP
        have hcl : 0 < cs.length := by obtain ⟨F, c, e, _⟩ := TOP; rw [e]; simp
        have hcn : Hid (chunkV 1000000000 cs = n) := by have := R6.out; show _ = _; omega
        have hcl2 : cs.length ≤ 32 * L + 1 := by
          obtain ⟨F, c, e, hc⟩ := TOP
          have h1 := hcn.out
          rw [e, chunkV_snoc] at h1
          have := chunk_len (cs := F) (m := c) h1.symm hc HLT.out
          rw [e]; simp; omega
        clear TOP
        obtain ⟨W, rfl⟩ : ∃ W, W = wr := ⟨wr, rfl⟩
        obtain ⟨g, rfl, hgB, hgl⟩ : ∃ g, co = some ⟨g, 0, none⟩ ∧ w1.heap.size ≤ g ∧ g < W.heap.size := by
          obtain ⟨ao, cap, e, _, _, hh⟩ := R1.out.open
          simp only [Value.slice.injEq, true_and] at e
          obtain ⟨rfl, rfl⟩ := e
          rcases hh with h | h
          · subst h
            rcases R1.out.2 with ⟨_, e2⟩ | ⟨g, cap', cur, e2, _⟩
            · omega
            · simp at e2
          · exact h
        have TW : Hid (Tab10 W) := HT.out.keep0 R8.out
        go_wp2
        go_loopw [7] (fun iv w5 => Hid (WrtR W cs iv w5)) (fun iv _ => (intOf iv + 1).toNat)
        case atStart =>
          refine ⟨cs.length, Nat.le_refl _, by go_num, .inl ⟨Nat.le_refl _, .slice none 0 0, heap_alloc_new W _, ?_, by simp [Value.ownBlock]⟩, gr_below (gr_alloc (gr_refl _ _) _), by simp⟩
          rw [txtF, if_pos rfl]
          exact World.ownsRow_nil _ _ _ _
        case round =>
          obtain ⟨k, hk, rfl, b1, b2, b3⟩ := hrel.out
          have B1 := hide b1
          have B2 := hide b2
          clear b1 b2 hrel
          by_cases hk0 : k = 0
          · subst hk0
            have hB0 := B1.out
            rw [txtF, if_neg (by omega), chunkT, List.drop_zero, hcn.out] at hB0
            have HB0 := hide hB0
            clear hB0
            go_wp2_with fail
            refine (Tryz.Builder_String W.heap.size W.heap.size (Lib.decDigits n) _ HB0.out (fun e => by
              have h1 := Lib.decDigits_length n
              have h2 := Lib.nDigits_pos n
              rw [e] at h1
              simp at h1
              omega)).mono ?_
            rintro e w6 ⟨rfl, b6⟩
            have G6 := hide (gr_none R8.out (gr_of_below' ⟨b6.os.trans B2.out.os, b6.tape.trans B2.out.tape, b6.output.trans B2.out.output, Nat.le_trans B2.out.size b6.size, fun k hk => (b6.block k hk).trans (B2.out.block k hk)⟩))
            clear b6
            go_wp2
            go_ret
            exact ⟨rfl, G6.out⟩
          · obtain ⟨j, rfl⟩ : ∃ j, k = j + 1 := ⟨k - 1, by omega⟩
            have ej : (((j + 1 : Nat) : Int) - 1) = (j : Int) := by omega
            rw [ej]
            clear ej hk0
            have hjl : j < cs.length := by omega
            have hcc := R5.out cs[j] (List.getElem_mem hjl)
            have hcell0 := (R1.out.at j hjl).1
            have hcell : wr.cell? ⟨g, j, none⟩ = some (.int .u32 (cs[j] : Nat)) := (World.cell?_of_block (a := ⟨g, j, none⟩) (B2.out.block g hgl)).trans hcell0
            obtain ⟨c, hcj⟩ : ∃ c, c = cs[j] := ⟨_, rfl⟩
            rw [← hcj] at hcell hcc
            have HCJ := hide hcj
            have T5 : Hid (Tab10 wr) := TW.out.keep0 (gr_of_below' B2.out)
            have h9 : (Lib.decDigits c).length ≤ 9 := dec_len_le (by decide) hcc
            have hpos := Lib.nDigits_pos c
            rw [← Lib.decDigits_length] at hpos
            have htl := txt_len cs (j + 1) R5.out hk HTOP.out
            clear hcell0 hcj
            go_wp2_with fail
            refine (formatUint_at c _ (by omega) T5.out).mono ?_
            rintro e w6 ⟨rfl, g6⟩
            obtain ⟨D, hD⟩ : ∃ D : ByteArray, D = ⟨(Lib.decDigits c).toArray⟩ := ⟨_, rfl⟩
            rw [← hD]
            have hDs : D.size = (Lib.decDigits c).length := by rw [hD]; rfl
            have hD9 : D.size ≤ 9 := by omega
            have hcells : Hid (Lib.strCells D = Lib.byteCells (Lib.decDigits c)) := by rw [hD]; exact str_cells _
            have B6 := hide (builder_keep B1.out g6)
            have W6 : Hid (Below W.heap.size W w6) := ⟨g6.os.trans B2.out.os, g6.tape.trans B2.out.tape, g6.output.trans B2.out.output, Nat.le_trans B2.out.size g6.size, fun k hk => (g6.block k (by omega) (by simp)).trans (B2.out.block k hk)⟩
            have hs6 : W.heap.size ≤ w6.heap.size := W6.out.size
            have HDS := hide hDs
            clear g6 hD hDs hcell T5 B1 B2
            by_cases htop : j + 1 = cs.length
            · go_wp2_with fail
              refine (writeString_at W.heap.size W.heap.size _ D _ B6.out (by rw [Lib.byteCells_length]; omega) hs6).mono ?_
              rintro e w7 ⟨rfl, c7, d7⟩
              have C7 := hide c7
              have D7 := hide d7
              have hs7 : W.heap.size ≤ w7.heap.size := Nat.le_trans hs6 d7.size
              clear c7 d7
              go_wp2
              go_roundw
              case rel =>
                refine ⟨j, by omega, by go_num, .inr ?_, ⟨D7.out.os.trans W6.out.os, D7.out.tape.trans W6.out.tape, D7.out.output.trans W6.out.output, Nat.le_trans W6.out.size D7.out.size, fun k hk => (D7.out.block k hk).trans (W6.out.block k hk)⟩, hs7⟩
                have h7 := C7.out
                rw [hcells.out, txtF, if_pos htop] at h7
                rw [txtF, if_neg (by omega), chunkT_last cs j htop, ← HCJ.out]
                exact h7
              case measure => simp [intOf]
            · have hj2 : (j : Int) < (cs.length : Int) - 1 := by omega
              have hnz : (9 - (D.size : Int)) = ((9 - D.size : Nat) : Int) := by omega
              go_wp2_with fail
              refine (Tryz.strings_Repeat ⟨#[48]⟩ (9 - D.size) _ (by omega) (by have : (⟨#[48]⟩ : ByteArray).size = 1 := rfl; rw [this]; omega)).mono ?_
              rintro e w7 ⟨rfl, d7⟩
              rw [show (⟨#[48]⟩ : ByteArray).data.toList = [48] from rfl, rep_zero]
              obtain ⟨Z, hZ⟩ : ∃ Z : ByteArray, Z = ⟨(List.replicate (9 - D.size) 48).toArray⟩ := ⟨_, rfl⟩
              rw [← hZ]
              have hZs : Z.size ≤ 9 := by rw [hZ]; show (List.replicate (9 - D.size) 48).toArray.size ≤ 9; simp
              have hzc : Hid (Lib.strCells Z = Lib.byteCells (List.replicate (9 - D.size) 48)) := by rw [hZ]; exact str_cells _
              have B7 := hide (builder_keep B6.out (gr_of_below' d7))
              have W7 : Hid (Below W.heap.size W w7) := ⟨d7.os.trans W6.out.os, d7.tape.trans W6.out.tape, d7.output.trans W6.out.output, Nat.le_trans W6.out.size d7.size, fun k hk => (d7.block k (by omega)).trans (W6.out.block k hk)⟩
              have hs7 : W.heap.size ≤ w7.heap.size := W7.out.size
              clear d7 hZ W6 B6 hnz
              go_wp2_with fail
              refine (writeString_at W.heap.size W.heap.size _ Z _ B7.out (by rw [Lib.byteCells_length]; omega) hs7).mono ?_
              rintro e w8 ⟨rfl, c8, d8⟩
              have C8 := hide c8
              have W8 : Hid (Below W.heap.size W w8) := ⟨d8.os.trans W7.out.os, d8.tape.trans W7.out.tape, d8.output.trans W7.out.output, Nat.le_trans W7.out.size d8.size, fun k hk => (d8.block k hk).trans (W7.out.block k hk)⟩
              have hs8 : W.heap.size ≤ w8.heap.size := W8.out.size
              clear c8 d8
              go_wp2_with fail
              refine (writeString_at W.heap.size W.heap.size _ D _ (.inr C8.out) (by rw [List.length_append, Lib.byteCells_length, Lib.strCells_length]; omega) hs8).mono ?_
              rintro e w9 ⟨rfl, c9, d9⟩
              have C9 := hide c9
              have W9 : Hid (Below W.heap.size W w9) := ⟨d9.os.trans W8.out.os, d9.tape.trans W8.out.tape, d9.output.trans W8.out.output, Nat.le_trans W8.out.size d9.size, fun k hk => (d9.block k hk).trans (W8.out.block k hk)⟩
              clear c9 d9
              go_wp2
              go_roundw
              case rel =>
                refine ⟨j, by omega, by go_num, .inr ?_, W9.out, W9.out.size⟩
                have h9 := C9.out
                rw [hcells.out, hzc.out, txtF, if_neg htop] at h9
                rw [txtF, if_neg (by omega), chunkT_step cs j (by omega) (by rw [← HCJ.out]; exact hcc) (HTOP.out.pos (j + 1) (by omega)), ← HCJ.out, ← HDS.out]
                rw [show ∀ a b c : List UInt8, Lib.byteCells (a ++ (b ++ c)) = (Lib.byteCells a ++ Lib.byteCells b) ++ Lib.byteCells c from fun a b c => by simp [Lib.byteCells]]
                exact h9
              case measure => simp [intOf]
      · have hl3 : 0 < ll2 := by
          rcases Nat.eq_zero_or_pos ll2 with e | e
          · exact absurd (hl2.1 e) hm
          · exact e
        clear hl2
        have hcsl := chunk_len R6.out hm HLT.out
        obtain ⟨ys, y1, y2, y3, y4, y5⟩ := R3.out
        go_wp2_with fail
        refine (shrink_own _ ys 1000000000 _ w.heap.size y1 y2 (by omega) (by omega) (by omega)).mono ?_
        rintro e w2 ⟨q', r, rfl, hr, s1⟩
        rw [y4] at hr
        obtain ⟨zs, z1, z2, z3, z4, z5, z6, z7⟩ := s1
        rw [y4] at z4
        obtain ⟨qo, qc, rfl, _, _, _⟩ := z1.open
        have hrb : r < 1000000000 := by rw [hr]; exact Nat.mod_lt _ (by decide)
        have G2 : Hid (w.grownBy w2 none) := gr_own2 R8.out z6 (fun b e => (y1.fresh b e).1)
        have C2 : Hid (Own w2 w1.heap.size (.slice co cs.length cc) cs) := R1.out.keep z6 (fun k e h2 => by
          have h3 := R4.out k e
          have h4 := (R1.out.fresh k h2).1
          omega)
        have Z1 : Hid (OwnN w2 w.heap.size (.slice qo zs.length qc) (m / 1000000000) L) := ⟨zs, z1, z2, z3, z4, by omega⟩
        have ZB : Hid (∀ k, blockOf (.slice qo zs.length qc) = some k → k < w1.heap.size) := fun k hk => R4.out k (by rw [← z7]; exact hk)
        have HS2 : w1.heap.size ≤ w2.heap.size := Nat.le_trans r2 z6.size
        have HR := hide hr
        clear y1 y2 y3 y4 y5 hr z1 z2 z3 z4 z5 z6 z7 R1 R3 R4
        have hown := C2.out.alloc (Obj.cells #[Value.int IntKind.u32 (r : Int)] 96)
        have hcell : (w2.alloc (Obj.cells #[Value.int IntKind.u32 (r : Int)] 96)).cell? ⟨w2.heap.size, 0, none⟩ = some (.int .u32 (r : Int)) := by simp
        have hbs : w1.heap.size ≤ (w2.alloc (Obj.cells #[Value.int IntKind.u32 (r : Int)] 96)).heap.size := by simp; omega
        have HC := hide hcell
        have HO := hide hown
        have HBS := hide hbs
        clear hcell hown hbs
        go_wp2_with (at_builtin; refine wpList_append_word _ rfl _ _ rfl w1.heap.size _ cs rfl w2.heap.size _ r rfl rfl HC.out HO.out (by omega) HBS.out ?_)
        intro cv' w3 o1 o2
        obtain ⟨co3, cc3, rfl, _, _, _⟩ := o1.open
        have O1 := hide o1
        have O2 := hide o2
        clear o1 o2
        go_wp2
        go_roundg (m / 1000000000)
        case measure => omega
        case rel =>
          refine ⟨m / 1000000000, cs ++ [r], O1.out, Nat.le_trans HBS.out O2.out.size, ?_, ZB.out, ?_, ?_, ?_, ?_, rfl⟩
          · obtain ⟨zs', a1, a2, a3, a4, a5⟩ := Z1.out.keep0 (gr_alloc (gr_refl _ _) (Obj.cells #[Value.int IntKind.u32 (r : Int)] 96))
            refine ⟨zs', a1.keep O2.out ?_, a2, a3, a4, a5⟩
            intro k e h2
            have h3 := ZB.out k h2
            have h4 := (C2.out.fresh k e).1
            omega
          · intro c hc
            rcases List.mem_append.1 hc with hc | hc
            · exact R5.out c hc
            · simp at hc; omega
          · rw [HR.out]
            exact chunk_step R6.out
          · by_cases h9 : m / 1000000000 = 0
            · right
              refine ⟨cs, r, rfl, ?_⟩
              have := HR.out
              omega
            · exact .inl h9
          · exact gr_own2 (gr_none G2.out (gr_alloc (gr_refl _ _) _)) O2.out (fun b e => by have := (C2.out.fresh b e).1; have := L2.out.size; omega)
end Go.Proofs.YtgdiepfknfnmjaaGreatDoor

namespace Go.Proofs.YtgdiepfknfnmjaaGreatDoor
open Go.RowKit
set_option linter.unusedVariables false
set_option linter.unusedSimpArgs false

/-- A number's text. -/
def qtext (q : Rat) : List UInt8 := (if rB q then [45] else []) ++ (Lib.decDigits (rN q) ++ (if q.den = 1 then [] else 47 :: Lib.decDigits q.den))

set_option maxHeartbeats 4000000 in
theorem fSign_at (x : Value) (q : Rat) (L : Nat) (w : World) (hx : FQ w x q L) :
    Calls Tryz.prog 33 #[x] w fun e w' => e = .returned (.int .i64 q.num.sign) ∧ w.grownBy w' none := by
  obtain ⟨uo, ul, uc, do_, dl, dc, rfl⟩ := hx.shape
  obtain ⟨up, down, e, h1, _⟩ := hx
  simp only [Value.agg.injEq, Array.mk.injEq, List.cons.injEq, and_true, true_and] at e
  obtain ⟨rfl, rfl⟩ := e
  obtain ⟨o, l, c, e2, hl, hc1, hc2⟩ := h1.shape
  simp only [Value.slice.injEq] at e2
  obtain ⟨rfl, rfl, rfl⟩ := e2
  unfold maxLen at hc2
  obtain ⟨W, hW⟩ : ∃ W, W = w.alloc (Obj.cells #[.bool (rB q), .slice uo ul uc, .slice do_ dl dc] 45) := ⟨_, rfl⟩
  have GW : Hid (w.grownBy W none) := by rw [hW]; exact gr_alloc (gr_refl _ _) _
  obtain ⟨s0, s1, s2⟩ : W.cell? ⟨w.heap.size, 0, none⟩ = some (.bool (rB q)) ∧ W.cell? ⟨w.heap.size, 1, none⟩ = some (.slice uo ul uc) ∧ W.cell? ⟨w.heap.size, 2, none⟩ = some (.slice do_ dl dc) := box_three (by rw [hW]; exact gr_refl _ _)
  by_cases hb : rB q = true
  · have hs : Hid (q.num.sign = -1) := by
      unfold rB at hb
      exact Int.sign_eq_neg_one_of_neg (by simpa using hb)
    rw [hb] at s0 hW ⊢
    go_enter Tryz.func33, Tryz.ntmps33
    go_wp2
    go_ret
    rw [hs.out]
    exact ⟨rfl, by first | exact gr_alloc (gr_refl _ _) _ | exact GW.out⟩
  · have hb' : rB q = false := by simpa using hb
    have hnn : 0 ≤ q.num := by unfold rB at hb'; simpa using hb'
    have hs : Hid (q.num.sign = sgn (ul : Int)) := by
      show _ = _
      unfold sgn
      by_cases h0 : ul = 0
      · have : q.num = 0 := by have := hl.1 h0; unfold rN at this; omega
        rw [this, h0]; rfl
      · have h3 : ¬ rN q = 0 := fun e => h0 (hl.2 e)
        have h4 : 0 < q.num := by unfold rN at h3; omega
        rw [Int.sign_eq_one_of_pos h4, if_neg (by omega), if_pos (by omega)]
    rw [hb'] at s0 hW ⊢
    clear hl h1 hb hb'
    go_enter Tryz.func33, Tryz.ntmps33
    go_wp2_with fail
    refine (fsign_at (ul : Int) _).mono ?_
    rintro e w2 ⟨rfl, rfl⟩
    go_wp2
    go_ret
    rw [hs.out]
    exact ⟨rfl, by first | exact gr_alloc (gr_refl _ _) _ | exact GW.out⟩
end Go.Proofs.YtgdiepfknfnmjaaGreatDoor

namespace Go.Proofs.YtgdiepfknfnmjaaGreatDoor
open Go.RowKit
set_option linter.unusedVariables false
set_option linter.unusedSimpArgs false

theorem ten_pos (k : Nat) : rB ((10 : Rat) ^ (k : Int)) = false ∧ rN ((10 : Rat) ^ (k : Int)) = 10 ^ k ∧ ((10 : Rat) ^ (k : Int)).den = 1 := by
  rw [Rat.zpow_natCast]
  have e1 : ((10 : Rat) ^ k).num = ((10 ^ k : Nat) : Int) := by rw [Rat.num_pow, Int.natCast_pow]; rfl
  have e2 : ((10 : Rat) ^ k).den = 1 := by rw [Rat.den_pow]; show 1 ^ k = 1; simp
  refine ⟨?_, ?_, e2⟩
  · unfold rB
    rw [e1]
    have : ¬ (((10 ^ k : Nat) : Int) < 0) := Int.not_lt.2 (Int.natCast_nonneg _)
    exact decide_eq_false this
  · unfold rN
    rw [e1, Int.natAbs_natCast]

theorem ten_neg (k : Nat) : rB ((10 : Rat) ^ (-(k : Int))) = false ∧ rN ((10 : Rat) ^ (-(k : Int))) = 1 ∧ ((10 : Rat) ^ (-(k : Int))).den = 10 ^ k := by
  rw [Rat.zpow_neg, Rat.zpow_natCast]
  have e1 : ((10 : Rat) ^ k).num = ((10 ^ k : Nat) : Int) := by rw [Rat.num_pow, Int.natCast_pow]; rfl
  have e2 : ((10 : Rat) ^ k).den = 1 := by rw [Rat.den_pow]; show 1 ^ k = 1; simp
  have hp : 0 < 10 ^ k := Nat.pow_pos (by decide)
  have e3 : (((10 : Rat) ^ k)⁻¹).num = 1 := by
    rw [Rat.num_inv, e1, e2, Int.sign_eq_one_of_pos (by omega)]
    rfl
  refine ⟨?_, ?_, ?_⟩
  · unfold rB; rw [e3]; rfl
  · unfold rN; rw [e3]; rfl
  · rw [Rat.den_inv, e1, if_neg (by omega), Int.natAbs_natCast]

set_option maxHeartbeats 4000000 in
theorem ten_at (z : Int) (w : World) (h1 : -100000000 ≤ z) (h2 : z ≤ 100000000) :
    Calls Tryz.prog 19 #[.int .i64 z] w fun e w' => FQE w ((10 : Rat) ^ z) (z.natAbs + 1) e w' := by
  obtain ⟨W, hW⟩ : ∃ W, W = w.alloc (Obj.cells #[.bool false, .slice none 0 0, .slice none 0 0] 45) := ⟨_, rfl⟩
  have GW : Hid (w.grownBy W none) := by rw [hW]; exact gr_alloc (gr_refl _ _) _
  have hWs : W.heap.size = w.heap.size + 1 := by rw [hW]; simp
  have CELLS : Hid (∀ wx, W.grownBy wx none → (wx.cell? ⟨w.heap.size, 0, none⟩ = some (.bool false) ∧ wx.cell? ⟨w.heap.size, 1, none⟩ = some (.slice none 0 0) ∧ wx.cell? ⟨w.heap.size, 2, none⟩ = some (.slice none 0 0) ∧ ∀ i, wx.frozen? ⟨w.heap.size, i, none⟩ = false)) := by
    intro wx hg
    rw [hW] at hg
    exact res_cells hg
  have NW : Hid (∀ wx, W.grownBy wx none → NoWords wx w.heap.size) := by
    intro wx hg
    rw [hW] at hg
    exact noWords_res hg
  by_cases hz : z < 0
  · obtain ⟨k, rfl⟩ : ∃ k : Nat, z = -(k : Int) := ⟨z.natAbs, by omega⟩
    have hk0 : 0 < k := by omega
    go_enter Tryz.func19, Tryz.ntmps19
    go_wp2_with fail
    rw [← hW]
    have hWs' := hide hWs
    have n1 := num_one W
    rw [hWs] at n1
    have N1 := hide n1
    clear n1
    refine (power_at 10 k _ (by omega) (by omega) (by omega)).mono ?_
    rintro e w2 ⟨v2, rfl, k1, k2⟩
    obtain ⟨po, pl, pc, rfl⟩ := k1.shape
    have G2 : Hid (W.grownBy w2 none) := gr_none (gr_alloc (gr_refl _ _) _) k2
    obtain ⟨r0, r1, r2, rf⟩ := CELLS.out w2 G2.out
    have rf0 := rf 0
    have rf1 := rf 1
    have rf2 := rf 2
    have K1 := hide k1
    have K2 := hide k2
    clear rf k1 k2 hW hWs
    go_wp2
    refine bodyPost_ret (v := .agg #[.bool false, .slice (some ⟨w.heap.size + 1, 0, none⟩) 1 1, .slice po pl pc]) (by simp [results, Tryz.results19, go_sem, r0, r1, r2]) rfl ?_
    refine ⟨_, rfl, ?_, gr_set (gr_set (gr_set (gr_none GW.out G2.out) _ _ (by simp)) _ _ (by simp)) _ _ (by simp)⟩
    have hF : FQ w2 (.agg #[.bool false, .slice (some ⟨w.heap.size + 1, 0, none⟩) 1 1, .slice po pl pc]) ((10 : Rat) ^ (-(k : Int))) (k + 1) := by
      obtain ⟨t1, t2, t3⟩ := ten_neg k
      unfold FQ
      rw [t1, t2, t3]
      refine ⟨_, _, rfl, (N1.out.keep0 K2.out).mono (by omega), .inr ⟨K1.out.num, ?_⟩, by simp, by simp⟩
      exact Nat.one_lt_pow (by omega) (by decide)
    have := FV.other hF (NW.out w2 G2.out) (gr_three (a := .bool false) (b := .slice (some ⟨w.heap.size + 1, 0, none⟩) 1 1) (c := .slice po pl pc))
    show FQ _ _ _ _
    rw [show (-(k : Int)).natAbs = k from by omega]
    exact this
  · obtain ⟨k, rfl⟩ : ∃ k : Nat, z = (k : Int) := ⟨z.toNat, by omega⟩
    go_enter Tryz.func19, Tryz.ntmps19
    go_wp2_with fail
    rw [← hW]
    refine (power_at 10 k _ (by omega) (by omega) (by omega)).mono ?_
    rintro e w2 ⟨v2, rfl, k1, k2⟩
    obtain ⟨po, pl, pc, rfl⟩ := k1.shape
    obtain ⟨r0, r1, r2, rf⟩ := CELLS.out w2 k2
    have rf0 := rf 0
    have rf1 := rf 1
    have rf2 := rf 2
    have K1 := hide k1
    have K2 := hide k2
    clear rf k1 k2 hW hWs
    go_wp2
    refine bodyPost_ret (v := .agg #[.bool false, .slice po pl pc, .slice none 0 0]) (by simp [results, Tryz.results19, go_sem, r0, r1, r2]) rfl ?_
    refine ⟨_, rfl, ?_, gr_set (gr_set (gr_set (gr_none GW.out K2.out) _ _ (by simp)) _ _ (by simp)) _ _ (by simp)⟩
    have hF : FQ w2 (.agg #[.bool false, .slice po pl pc, .slice none 0 0]) ((10 : Rat) ^ (k : Int)) (k + 1) := by
      obtain ⟨t1, t2, t3⟩ := ten_pos k
      unfold FQ
      rw [t1, t2, t3]
      exact ⟨_, _, rfl, K1.out.num, .inl ⟨rfl, rfl⟩, by simp, by simp⟩
    have := FV.other hF (NW.out w2 K2.out) (gr_three (a := .bool false) (b := .slice po pl pc) (c := .slice none 0 0))
    show FQ _ _ _ _
    rw [show ((k : Nat) : Int).natAbs = k from by omega]
    exact this
end Go.Proofs.YtgdiepfknfnmjaaGreatDoor

namespace Go.Proofs.YtgdiepfknfnmjaaGreatDoor
open Go.RowKit
set_option linter.unusedVariables false
set_option linter.unusedSimpArgs false

theorem cat_bytes (a b : List UInt8) : (⟨a.toArray⟩ : ByteArray) ++ ⟨b.toArray⟩ = ⟨(a ++ b).toArray⟩ := by
  apply ByteArray.ext
  rw [ByteArray.data_append]
  simp

theorem size_mk (a : List UInt8) : (⟨a.toArray⟩ : ByteArray).size = a.length := rfl

/-- A string that is known by its bytes. -/
def IsS (s : ByteArray) (l : List UInt8) : Prop := s = ⟨l.toArray⟩

theorem FQ.parts {w : World} {u d : Value} {q : Rat} {L : Nat} (h : FQ w (.agg #[.bool (rB q), u, d]) q L) : Num w u (rN q) L ∧ ((d = .slice none 0 0 ∧ q.den = 1) ∨ (Num w d q.den L ∧ 1 < q.den)) := by
  obtain ⟨up, down, e, h1, h2, _⟩ := h
  simp only [Value.agg.injEq, Array.mk.injEq, List.cons.injEq, and_true, true_and] at e
  obtain ⟨rfl, rfl⟩ := e
  exact ⟨h1, h2⟩

theorem dec_short {n L : Nat} (hL : L ≤ 10000000) (h : n < 4294967296 ^ L) : (Lib.decDigits n).length ≤ 100000001 := by
  rw [Lib.decDigits_length]
  rcases Nat.eq_zero_or_pos L with e | e
  · subst e
    have : n = 0 := by simpa using h
    subst this
    rw [Lib.nDigits_small (by decide)]
    omega
  · have : Lib.nDigits n ≤ 10 * L := by
      refine nDigits_le (by omega) (Nat.lt_of_lt_of_le h ?_)
      rw [Nat.pow_mul]
      exact Nat.pow_le_pow_left (by decide) L
    omega

set_option maxHeartbeats 4000000 in
set_option maxRecDepth 10000 in
theorem fQ_at (x : Value) (q : Rat) (L : Nat) (w : World) (hx : FQ w x q L) (hL : L ≤ 10000000) (ht : Tab10 w) :
    Calls Tryz.prog 20 #[x] w fun e w' => e = .returned (.string ⟨(qtext q).toArray⟩) ∧ w.grownBy w' none := by
  obtain ⟨uo, ul, uc, do_, dl, dc, rfl⟩ := hx.shape
  obtain ⟨hu, hd⟩ := hx.parts
  have HU := hide hu
  have HD := hide hd
  have HT := hide ht
  obtain ⟨W, hW⟩ : ∃ W, W = w.alloc (Obj.cells #[.bool (rB q), .slice uo ul uc, .slice do_ dl dc] 45) := ⟨_, rfl⟩
  have GW : Hid (w.grownBy W none) := by rw [hW]; exact gr_alloc (gr_refl _ _) _
  have CELLS : Hid (∀ wx, W.grownBy wx none → wx.cell? ⟨w.heap.size, 0, none⟩ = some (.bool (rB q)) ∧ wx.cell? ⟨w.heap.size, 1, none⟩ = some (.slice uo ul uc) ∧ wx.cell? ⟨w.heap.size, 2, none⟩ = some (.slice do_ dl dc)) := by
    intro wx hg
    rw [hW] at hg
    exact box_three hg
  obtain ⟨s0, s1, s2⟩ := CELLS.out W (gr_refl _ _)
  have hl1 := dec_short hL (num_lt' hu)
  obtain ⟨D1, hD1⟩ : ∃ l, l = Lib.decDigits (rN q) := ⟨_, rfl⟩
  have HD1 := hide hD1
  rw [← hD1] at hl1
  have hDd : Hid (dl = 0 ↔ q.den = 1) := by
    rcases hd with ⟨e, h1⟩ | ⟨h1, h2⟩
    · simp only [Value.slice.injEq] at e
      exact ⟨fun _ => h1, fun _ => e.2.1⟩
    · obtain ⟨o, l, c, e, hl, _⟩ := h1.shape
      simp only [Value.slice.injEq] at e
      obtain ⟨rfl, rfl, rfl⟩ := e
      exact ⟨fun e => by have := hl.1 e; omega, fun e => by omega⟩
  have hdc : dl ≤ 9223372036854775807 := by
    rcases hd with ⟨e, h1⟩ | ⟨h1, h2⟩
    · simp only [Value.slice.injEq] at e
      omega
    · obtain ⟨o, l, c, e, _, hl1, hl2⟩ := h1.shape
      simp only [Value.slice.injEq] at e
      obtain ⟨rfl, rfl, rfl⟩ := e
      unfold maxLen at hl2
      omega
  clear hx hu hd ht hD1
  go_enter Tryz.func20, Tryz.ntmps20
  go_wp2_with fail
  rw [← hW]
  refine (text_at _ _ L W (HU.out.keep0 GW.out) hL (HT.out.keep0 GW.out)).mono ?_
  rintro e w2 ⟨rfl, g2⟩
  rw [← HD1.out]
  obtain ⟨a0, a1, a2⟩ := CELLS.out w2 g2
  have G2 := hide g2
  clear s0 s1 s2 g2 hW
  by_cases hb : rB q = true
  · rw [hb] at a0
    have HB := hide hb
    clear hb
    by_cases hden : q.den = 1
    · obtain rfl : dl = 0 := hDd.out.2 hden
      have HQ : Hid (qtext q = [45] ++ D1) := by
        show _ = _
        rw [qtext, HB.out, if_pos hden, HD1.out]
        simp
      clear hDd
      go_wp2
      go_ret
      rw [HQ.out]
      exact ⟨rfl, gr_none GW.out G2.out⟩
    · have hdl : 0 < dl := by
        rcases Nat.eq_zero_or_pos dl with e | e
        · exact absurd (hDd.out.1 e) hden
        · exact e
      have HN : Hid (Num w (.slice do_ dl dc) q.den L) := by
        rcases HD.out with ⟨e, h⟩ | ⟨h, _⟩
        · exact absurd h hden
        · exact h
      have hl2 := dec_short hL (num_lt' HN.out)
      clear hDd
      go_wp2_with fail
      refine (text_at _ _ L w2 ((HN.out.keep0 GW.out).keep0 G2.out) hL ((HT.out.keep0 GW.out).keep0 G2.out)).mono ?_
      rintro e w3 ⟨rfl, g3⟩
      have G3 := hide g3
      obtain ⟨D2, hD2⟩ : ∃ l, l = Lib.decDigits q.den := ⟨_, rfl⟩
      rw [← hD2] at hl2 ⊢
      have HQ : Hid (qtext q = [45] ++ D1 ++ ([47] ++ D2)) := by
        show _ = _
        rw [qtext, HB.out, if_neg hden, HD1.out, hD2]
        simp
      clear g3 hD2
      go_wp2
      go_ret
      rw [HQ.out]
      exact ⟨rfl, gr_none GW.out (gr_none G2.out G3.out)⟩
  · have hb' : rB q = false := by simpa using hb
    rw [hb'] at a0
    have HB := hide hb'
    clear hb hb'
    by_cases hden : q.den = 1
    · obtain rfl : dl = 0 := hDd.out.2 hden
      have HQ : Hid (qtext q = D1) := by
        show _ = _
        rw [qtext, HB.out, if_pos hden, HD1.out]
        simp
      clear hDd
      go_wp2
      go_ret
      rw [HQ.out]
      exact ⟨rfl, gr_none GW.out G2.out⟩
    · have hdl : 0 < dl := by
        rcases Nat.eq_zero_or_pos dl with e | e
        · exact absurd (hDd.out.1 e) hden
        · exact e
      have HN : Hid (Num w (.slice do_ dl dc) q.den L) := by
        rcases HD.out with ⟨e, h⟩ | ⟨h, _⟩
        · exact absurd h hden
        · exact h
      have hl2 := dec_short hL (num_lt' HN.out)
      clear hDd
      go_wp2_with fail
      refine (text_at _ _ L w2 ((HN.out.keep0 GW.out).keep0 G2.out) hL ((HT.out.keep0 GW.out).keep0 G2.out)).mono ?_
      rintro e w3 ⟨rfl, g3⟩
      have G3 := hide g3
      obtain ⟨D2, hD2⟩ : ∃ l, l = Lib.decDigits q.den := ⟨_, rfl⟩
      rw [← hD2] at hl2 ⊢
      have HQ : Hid (qtext q = D1 ++ ([47] ++ D2)) := by
        show _ = _
        rw [qtext, HB.out, if_neg hden, HD1.out, hD2]
        simp
      clear g3 hD2
      go_wp2
      go_ret
      rw [HQ.out]
      exact ⟨rfl, gr_none GW.out (gr_none G2.out G3.out)⟩
end Go.Proofs.YtgdiepfknfnmjaaGreatDoor
