/- voltaicbig: Int's: QuoRem, Quo, DivMod, Mod, of what isn't below 0. -/
import Derived.Test.YtgdiepfknfnmjaaGreatDoorRats
import Derived.Test.YtgdiepfknfnmjaaGreatDoorMFb
import Derived.Test.YtgdiepfknfnmjaaGreatDoorMRb
import Derived.Test.YtgdiepfknfnmjaaGreatDoorMFd
import Derived.Lib.IndexLaws
import Derived.Test.YtgdiepfknfnmjaaGreatDoorMU3
import Derived.Test.YtgdiepfknfnmjaaGreatDoorMU1
import Derived.Test.YtgdiepfknfnmjaaGreatDoorMRa
namespace Go.Proofs.YtgdiepfknfnmjaaGreatDoor
open Go.RowKit
set_option linter.unusedVariables false
set_option linter.unusedSimpArgs false

theorem IntAt.tight {w : World} {b off L L' : Nat} {z : Int} (h : IntAt w b off z L) (hn : z.natAbs < 4294967296 ^ L') : IntAt w b off z L' := by
  obtain ⟨neg, v, h1, h2, h3, h4⟩ := h
  exact ⟨neg, v, h1, h2.tight hn, h3, h4⟩

theorem IntAt.lt_pow {w : World} {b off L : Nat} {z : Int} (h : IntAt w b off z L) : z.natAbs < 4294967296 ^ L := by
  obtain ⟨neg, v, h1, ⟨xs, x1, x2, x3, x4⟩, h3, h4⟩ := h
  rw [← x3]
  exact Nat.lt_of_lt_of_le (val_lt x1.sm) (Nat.pow_le_pow_right (by decide) x4)

/-- What QuoRem answers. -/
def QrE (w : World) (bz br : Nat) (q r L : Nat) (e : Ending) (w' : World) : Prop :=
  e = .returned (.tuple #[.pointer (some ⟨bz, 0, none⟩), .pointer (some ⟨br, 0, none⟩)]) ∧ ∃ w1, Put w w1 bz 0 ∧ Put w1 w' br 0 ∧ IntAt w' bz 0 (q : Nat) L ∧ IntAt w' br 0 (r : Nat) L

set_option maxHeartbeats 4000000 in
theorem quoRem_pos (bz bx bY br : Nat) (nz nr : Bool) (vz vr : Value) (x y L M : Nat) (w : World) (hZ : Box w bz 0 nz vz) (hR : Box w br 0 nr vr) (hX : IntAt w bx 0 (x : Nat) L) (hY : IntAt w bY 0 (y : Nat) M) (hy : 0 < y) (hne : bz ≠ br) (hL : L ≤ 900000000) (hM : M ≤ 900000000) :
    Calls Tryz.prog 86 #[.pointer (some ⟨bz, 0, none⟩), .pointer (some ⟨bx, 0, none⟩), .pointer (some ⟨bY, 0, none⟩), .pointer (some ⟨br, 0, none⟩)] w fun e w' => QrE w bz br (x / y) (x % y) (L + 2) e w' := by
  have HZ := hide hZ
  have HR := hide hR
  have hbz := hZ.lt
  have hbr := hR.lt
  obtain ⟨neg, v, h1, h2, h3, h4⟩ := hX
  obtain ⟨neg', u, h1', h2', h3', h4'⟩ := hY
  obtain rfl : neg = false := by rw [h3]; exact decide_eq_false (by omega)
  obtain rfl : neg' = false := by rw [h3']; exact decide_eq_false (by omega)
  rw [Int.natAbs_natCast] at h2 h2'
  have HX := hide h1
  have c0 := h1.c0
  have c1 : w.cell? ⟨bx, 1, none⟩ = some v := h1.c1
  have HY := hide h1'
  have d0 := h1'.c0
  have d1 : w.cell? ⟨bY, 1, none⟩ = some u := h1'.c1
  have H2 := hide h2
  have H2' := hide h2'
  clear hZ hR h1 h2 h3 h4 h1' h2' h3' h4'
  go_enter Tryz.func86, Tryz.ntmps86
  go_wp2
  go_quiet (fail)
  go_wp2
  go_region_held3 (fun w' => w'.cell? ⟨bx, 0, none⟩ = some (.bool false) ∧ w'.cell? ⟨bx, 1, none⟩ = some v ∧ w'.cell? ⟨bY, 0, none⟩ = some (.bool false) ∧ w'.cell? ⟨bY, 1, none⟩ = some u) (go_keep)
    (first | (go_at_call 130; refine (div_num _ _ x y L M _ (H2.out.keep0 (by first | exact gr_none (gr_dn _) (gr_dn _) | exact gr_dn _ | exact gr_refl _ _)) (H2'.out.keep0 (by first | exact gr_none (gr_dn _) (gr_dn _) | exact gr_dn _ | exact gr_refl _ _)) hy hL hM).mono ?_; rintro e w1 ⟨q, r, rfl, k1, k2, k3, k4, k5⟩; have G1 : w.grownBy w1 none := gr_none (by first | exact gr_none (gr_dn _) (gr_dn _) | exact gr_dn _ | exact gr_refl _ _) k3; have q0 := (HX.out.keep0 G1).c0; have q0' : w1.cell? ⟨bx, 1, none⟩ = some v := (HX.out.keep0 G1).c1; have q1 := (HY.out.keep0 G1).c0; have q1' : w1.cell? ⟨bY, 1, none⟩ = some u := (HY.out.keep0 G1).c1))
  all_goals
    obtain ⟨qo, ql, qc, rfl, _, _, _, _, _, _⟩ := num_zero k1
    obtain ⟨ro, rl, rc, rfl, _, _, _, _, _, _⟩ := num_zero k2
    have G1' := hide G1
    have K1 := hide k1
    have K2 := hide k2
    have K4 := hide k4
    have K5 := hide k5
    clear k1 k2 k3 k4 k5 G1
    go_wp2_with fail
    refine (give_num bz 0 nz vz false _ (x / y) (L + 2) _ (HZ.out.keep0 (by first | exact gr_none G1'.out (gr_dn _) | exact G1'.out)) (K1.out.keep0 (by first | exact gr_dn _ | exact gr_refl _ _)) (fresh_ne (w1 := w) K4.out (by first | exact hbz | (simp; exact hbz)))).mono ?_
    rintro e w2 ⟨rfl, a1, a2, a3⟩
    have A1 := hide a1
    have A2 := hide a2
    have A3 := hide a3
    clear a1 a2 a3
    go_wp2_with fail
    refine (give_num br 0 nr vr false _ (x % y) (L + 2) _ ((HR.out.keep0 G1'.out).keep A1.out (.inl (Ne.symm hne))) (K2.out.keep A1.out.gr (fun k e hk => by cases e; exact fresh_ne (w1 := w) K5.out hbz hk)) (fresh_ne (w1 := w) K5.out hbr)).mono ?_
    rintro e w3 ⟨rfl, b1, b2, b3⟩
    have B1 := hide b1
    have B2 := hide b2
    clear b1 b2 b3
    go_wp2
    refine bodyPost_ret (v := .tuple #[.pointer (some ⟨bz, 0, none⟩), .pointer (some ⟨br, 0, none⟩)]) (by simp [results, Tryz.results86, go_sem]) rfl ?_
    refine ⟨rfl, w2, (Put.of_gr G1'.out bz 0 hbz).trans A1.out, B1.out, A2.out.keep B1.out (.inl hne) (fun v' hv' => ?_), B2.out⟩
    have e3 := A3.out
    rw [Nat.zero_add] at e3 hv'
    rw [e3] at hv'
    cases hv'
    exact fresh_ne (w1 := w) K4.out hbr

/-- What a new Int of the call's own takes is nobody else's. -/
theorem Put.drop_new {w w1 w2 : World} {b off br : Nat} (h : Put w w1 b off) (k : Put w1 w2 br 0) (hr : w.heap.size ≤ br) (hb : b < w.heap.size) : Put w w2 b off := by
  have hne : b ≠ br := by omega
  have hb1 : b < w1.heap.size := Nat.lt_of_lt_of_le hb h.gr.size
  have e := k.gr.block b hb1 (fun e => hne (Option.some.inj e))
  refine ⟨⟨k.gr.os.trans h.gr.os, k.gr.tape.trans h.gr.tape, k.gr.output.trans h.gr.output, Nat.le_trans h.gr.size k.gr.size, fun j hj hjb => ?_⟩, fun o h1 h2 => ?_, fun o => ?_⟩
  · rw [k.gr.block j (Nat.lt_of_lt_of_le hj h.gr.size) (fun e => by have := Option.some.inj e; omega)]
    exact h.gr.block j hj hjb
  · rw [World.cell?_of_block (a := ⟨b, o, none⟩) e]
    exact h.rest o h1 h2
  · rw [World.frozen?_of_block (a := ⟨b, o, none⟩) e]
    exact h.fr o

set_option maxHeartbeats 2000000 in
theorem quo_self (bd bY : Nat) (x y L M : Nat) (w : World) (hX : IntAt w bd 0 (x : Nat) L) (hY : IntAt w bY 0 (y : Nat) M) (hy : 0 < y) (hL : L ≤ 900000000) (hM : M ≤ 900000000) :
    Calls Tryz.prog 42 #[.pointer (some ⟨bd, 0, none⟩), .pointer (some ⟨bd, 0, none⟩), .pointer (some ⟨bY, 0, none⟩)] w fun e w' => e = .returned (.pointer (some ⟨bd, 0, none⟩)) ∧ Put w w' bd 0 ∧ IntAt w' bd 0 ((x / y : Nat) : Int) L := by
  have hlt := hX.lt_pow
  have hbd := hX.lt
  rw [Int.natAbs_natCast] at hlt
  have hlt2 : Hid (x / y < 4294967296 ^ L) := Nat.lt_of_le_of_lt (Nat.div_le_self _ _) hlt
  have HX := hide hX
  have HY := hide hY
  have HB : Hid (∃ nz vz, Box w bd 0 nz vz) := by obtain ⟨nz, vz, h, _⟩ := hX; exact ⟨nz, vz, h⟩
  obtain ⟨nz, vz, hbox⟩ := HB.out
  have HBOX := hide hbox
  clear hX hY HB hbox hlt
  go_enter Tryz.func42, Tryz.ntmps42
  go_wp2_with fail
  have ga : w.grownBy (w.alloc (.cells #[.bool false, .slice none 0 0] 56)) none := gr_alloc (gr_refl _ _) _
  refine (quoRem_pos bd bd bY w.heap.size nz false vz (.slice none 0 0) x y L M _ (HBOX.out.keep0 ga) (newBox w) (HX.out.keep0 ga) (HY.out.keep0 ga) hy (by omega) hL hM).mono ?_
  rintro e w1 ⟨rfl, wm, p1, p2, p3, p4⟩
  have P1 := hide p1
  have P2 := hide p2
  have P3 := hide p3
  have GA := hide ga
  clear p1 p2 p3 p4 ga
  go_wp2
  go_ret
  refine ⟨rfl, ((Put.of_gr GA.out bd 0 hbd).trans P1.out).drop_new P2.out (Nat.le_refl _) hbd, P3.out.tight ?_⟩
  rw [Int.natAbs_natCast]
  exact hlt2.out

set_option maxHeartbeats 4000000 in
theorem divMod_pos (bz bx bY br : Nat) (nz nr : Bool) (vz vr : Value) (x y L M : Nat) (w : World) (hZ : Box w bz 0 nz vz) (hR : Box w br 0 nr vr) (hX : IntAt w bx 0 (x : Nat) L) (hY : IntAt w bY 0 (y : Nat) M) (hy : 0 < y) (hne : bz ≠ br) (hL : L ≤ 900000000) (hM : M ≤ 900000000) :
    Calls Tryz.prog 84 #[.pointer (some ⟨bz, 0, none⟩), .pointer (some ⟨bx, 0, none⟩), .pointer (some ⟨bY, 0, none⟩), .pointer (some ⟨br, 0, none⟩)] w fun e w' => QrE w bz br (x / y) (x % y) (L + 2) e w' := by
  have HX := hide hX
  have HY := hide hY
  have HZ := hide hZ
  have HR := hide hR
  have hbz := hZ.lt
  clear hX hY hZ hR
  go_enter Tryz.func84, Tryz.ntmps84
  go_wp2_with fail
  refine (set_at w.heap.size 0 bY 0 false (.slice none 0 0) (y : Nat) M _ (newBox w) (HY.out.keep0 (gr_alloc (gr_refl _ _) _)) (by omega)).mono ?_
  rintro e w1 ⟨rfl, a1, a2, a3⟩
  have G1 : Hid (w.grownBy w1 none) := gr_of_put (gr_alloc (gr_refl _ _) _) a1 (Nat.le_refl _)
  clear a1 a2 a3
  go_wp2_with fail
  refine (quoRem_pos bz bx bY br nz nr vz vr x y L M _ (HZ.out.keep0 G1.out) (HR.out.keep0 G1.out) (HX.out.keep0 G1.out) (HY.out.keep0 G1.out) hy hne hL hM).mono ?_
  rintro e w2 ⟨rfl, wm, p1, p2, p3, p4⟩
  have P1 := hide p1
  have P2 := hide p2
  have P3 := hide p3
  have P4 := hide p4
  obtain ⟨ng, vv, q1, q2, q3, q4⟩ := p4
  obtain rfl : ng = false := by rw [q3]; exact decide_eq_false (by omega)
  have c0 := q1.c0
  clear p1 p2 p3 q1 q2 q3 q4
  go_wp2
  refine bodyPost_ret (v := .tuple #[.pointer (some ⟨bz, 0, none⟩), .pointer (some ⟨br, 0, none⟩)]) (by simp [results, Tryz.results84, go_sem]) rfl ?_
  exact ⟨rfl, wm, (Put.of_gr G1.out bz 0 hbz).trans P1.out, P2.out, P3.out, P4.out⟩

set_option maxHeartbeats 2000000 in
theorem mod_at (bm bx bY : Nat) (nr : Bool) (vr : Value) (x y L M : Nat) (w : World) (hR : Box w bm 0 nr vr) (hX : IntAt w bx 0 (x : Nat) L) (hY : IntAt w bY 0 (y : Nat) M) (hy : 0 < y) (hL : L ≤ 900000000) (hM : M ≤ 900000000) :
    Calls Tryz.prog 39 #[.pointer (some ⟨bm, 0, none⟩), .pointer (some ⟨bx, 0, none⟩), .pointer (some ⟨bY, 0, none⟩)] w fun e w' => e = .returned (.pointer (some ⟨bm, 0, none⟩)) ∧ Put w w' bm 0 ∧ IntAt w' bm 0 ((x % y : Nat) : Int) (L + 2) := by
  have HX := hide hX
  have HY := hide hY
  have HR := hide hR
  have hbm := hR.lt
  clear hX hY hR
  go_enter Tryz.func39, Tryz.ntmps39
  go_wp2_with fail
  have ga : w.grownBy (w.alloc (.cells #[.bool false, .slice none 0 0] 56)) none := gr_alloc (gr_refl _ _) _
  refine (divMod_pos w.heap.size bx bY bm false nr (.slice none 0 0) vr x y L M _ (newBox w) (HR.out.keep0 ga) (HX.out.keep0 ga) (HY.out.keep0 ga) hy (by omega) hL hM).mono ?_
  rintro e w1 ⟨rfl, wm, p1, p2, p3, p4⟩
  have G1 : Hid (w.grownBy wm none) := gr_of_put ga p1 (Nat.le_refl _)
  have P2 := hide p2
  have P4 := hide p4
  clear p1 p2 p3 p4 ga
  go_wp2
  go_ret
  exact ⟨rfl, (Put.of_gr G1.out bm 0 hbm).trans P2.out, P4.out⟩
end Go.Proofs.YtgdiepfknfnmjaaGreatDoor

namespace Go.Proofs.YtgdiepfknfnmjaaGreatDoor
open Go.RowKit
open Go.ChangeMaps (setBlock)
set_option linter.unusedVariables false
set_option linter.unusedSimpArgs false

/-- The round's iterator lies at r, and Q holds of each entry that has come. -/
def SeenP (w0 : World) (es : Array MapEntry) (clock bm r : Nat) (Q : List UInt8 → Int → Prop) (wx : World) : Prop :=
  ∃ seen : Array Nat, wx.heap[r]? = some (.mapIter (some bm) clock seen clock) ∧ w0.grownBy wx none ∧ w0.heap.size ≤ r ∧
    ∀ x ∈ es.toList, seen.contains x.born = true → ∀ (PB : ByteArray) (e : Int), x.key = .string PB → x.val = .int .i64 e → Q PB.data.toList e

theorem seenP_start {w0 w1 : World} {es : Array MapEntry} {clock bm : Nat} {Q : List UInt8 → Int → Prop} (hg : w0.grownBy w1 none) :
    SeenP w0 es clock bm w1.heap.size Q (w1.alloc (.mapIter (some bm) clock #[] clock)) :=
  ⟨#[], heap_alloc_new w1 _, gr_alloc hg _, hg.size, fun x _ h => by simp at h⟩

theorem seenP_next {w0 wr : World} {es : Array MapEntry} {clock bm r : Nat} {Q : List UInt8 → Int → Prop} (h : SeenP w0 es clock bm r Q wr) (hb : w0.heap[bm]? = some (.map es clock)) (hst : MapKept.Stamped es clock)
    (h4 : ∀ x ∈ es.toList, ∃ p e, (p, e) ∈ pwL ∧ x.key = .string ⟨p.toArray⟩ ∧ x.val = .int .i64 e) (h5 : ∀ p e, (p, e) ∈ pwL → ∃ x ∈ es.toList, x.key = .string ⟨p.toArray⟩ ∧ x.val = .int .i64 e) :
    ((∀ p e, (p, e) ∈ pwL → Q p e) ∧ w0.grownBy wr none ∧ ∀ ty, (Instr.next (.pointer (some ⟨r, 0, none⟩)) false ty).run Tryz.prog wr = .ok (.tuple #[.bool false]) wr) ∨
    ∃ (PB : ByteArray) (e : Int) (w2 : World), (PB.data.toList, e) ∈ pwL ∧ (∀ ty, (Instr.next (.pointer (some ⟨r, 0, none⟩)) false ty).run Tryz.prog wr = .ok (.tuple #[.bool true, .string PB, .int .i64 e]) w2) ∧
      (Instr.entry (.pointer (some ⟨r, 0, none⟩))).run Tryz.prog w2 = .ok (.tuple #[.string PB, .int .i64 e]) w2 ∧ w0.grownBy w2 none ∧
      ∀ w3, w2.grownBy w3 none → ∀ Q' : List UInt8 → Int → Prop, (∀ p e, Q p e → Q' p e) → Q' PB.data.toList e → SeenP w0 es clock bm r Q' w3 ∧ (leftOf es (w3.iterSeen r)).size < (leftOf es (wr.iterSeen r)).size := by
  obtain ⟨seen, h1, h2, h3, h6⟩ := h
  have hbl := (Array.getElem?_eq_some_iff.1 hb).1
  have hb1 : wr.heap[bm]? = some (.map es clock) := by rw [h2.block bm hbl (by simp)]; exact hb
  have hrl := (Array.getElem?_eq_some_iff.1 h1).1
  rcases run_next_at (P := Tryz.prog) wr 0 r bm clock clock seen es clock h1 hb1 hst.1 (Nat.le_refl _) with ⟨h0, hrun⟩ | ⟨x, hx, w1, hw1, hrun⟩
  · left
    refine ⟨fun p e hf => ?_, h2, fun _ => hrun⟩
    obtain ⟨x, hx, hk, hv⟩ := h5 p e hf
    exact h6 x hx (all_seen es seen h0 x hx) ⟨p.toArray⟩ e hk hv
  · right
    obtain ⟨hxe, hns⟩ := mem_left hx
    obtain ⟨p, e, hm, hk, hv⟩ := h4 x hxe
    rw [hk, hv] at hrun
    have hg1 : w0.grownBy w1 none := by
      rcases hw1 with rfl | rfl
      · exact h2
      · exact gr_none h2 gr_drew1
    have hs1 : w1.heap = wr.heap := by rcases hw1 with rfl | rfl <;> rfl
    have hr2 : (setBlock w1 r (.mapIter (some bm) clock (seen.push x.born) clock)).heap[r]? = some (.mapIter (some bm) clock (seen.push x.born) clock) := by
      simp [setBlock, hs1, hrl]
    have hg2 := gr_setBlock (o := .mapIter (some bm) clock (seen.push x.born) clock) hg1 h3
    have hb2 : (setBlock w1 r (.mapIter (some bm) clock (seen.push x.born) clock)).heap[bm]? = some (.map es clock) := by rw [hg2.block bm hbl (by simp)]; exact hb
    have hen := run_entry_at (P := Tryz.prog) _ r bm clock seen es clock x hr2 hb2 hxe hst.2.1
    rw [hk, hv] at hen
    refine ⟨⟨p.toArray⟩, e, _, hm, fun _ => hrun, hen, hg2, fun w3 hw3 Q' hQ hnew => ?_⟩
    have hr3 : w3.heap[r]? = some (.mapIter (some bm) clock (seen.push x.born) clock) := by
      rw [hw3.block r (Array.getElem?_eq_some_iff.1 hr2).1 (by simp)]
      exact hr2
    refine ⟨⟨seen.push x.born, hr3, gr_none hg2 hw3, h3, fun y hy hc => ?_⟩, ?_⟩
    · rw [contains_push] at hc
      rcases Bool.or_eq_true _ _ ▸ hc with h1 | h1
      · exact fun PB e' hk' hv' => hQ _ _ (h6 y hy h1 PB e' hk' hv')
      · have : y = x := born_inj hst.2.1 hy hxe (beq_iff_eq.1 h1)
        subst this
        intro PB e' hk' hv'
        rw [hk] at hk'
        rw [hv] at hv'
        cases hk'
        cases hv'
        exact hnew
    · rw [iter_seen hr3, iter_seen h1]
      exact left_shrinks es seen x hx

end Go.Proofs.YtgdiepfknfnmjaaGreatDoor

namespace Go.Proofs.YtgdiepfknfnmjaaGreatDoor
open Go.RowKit Go.Lib
set_option linter.unusedVariables false

theorem isD_digit {k : Nat} (h : k < 10) : isD (UInt8.ofNat (48 + k)) = true ∧ (UInt8.ofNat (48 + k)).toNat - 48 = k := by
  have e : (UInt8.ofNat (48 + k)).toNat = 48 + k := by rw [UInt8.toNat_ofNat']; omega
  unfold isD
  rw [e]
  constructor
  · simp; omega
  · omega

theorem dec_isD (n : Nat) : ∀ c ∈ decDigits n, isD c = true := by
  induction n using Nat.strongRecOn with
  | _ n ih =>
    intro c hc
    rw [decDigits] at hc
    split at hc
    · rename_i h
      simp only [List.mem_singleton] at hc
      subst hc
      exact (isD_digit h).1
    · rename_i h
      rcases List.mem_append.1 hc with hc | hc
      · exact ih (n / 10) (by omega) c hc
      · simp only [List.mem_singleton] at hc
        subst hc
        exact (isD_digit (Nat.mod_lt _ (by decide))).1

theorem decL_snoc (l : List UInt8) (c : UInt8) : decL (l ++ [c]) = decL l * 10 + (c.toNat - 48) := by
  unfold decL
  rw [List.foldl_append]
  rfl

theorem decL_dec (n : Nat) : decL (decDigits n) = n := by
  induction n using Nat.strongRecOn with
  | _ n ih =>
    rw [decDigits]
    split
    · rename_i h
      have := decL_snoc [] (UInt8.ofNat (48 + n))
      rw [List.nil_append] at this
      rw [this, (isD_digit h).2]
      simp [decL]
    · rename_i h
      rw [decL_snoc, ih (n / 10) (by omega), (isD_digit (Nat.mod_lt _ (by decide))).2]
      omega

theorem dec_ne (n : Nat) : decDigits n ≠ [] := by
  rw [decDigits]
  split <;> simp

theorem dec_allD (n : Nat) : allD (decDigits n) = true := by
  unfold allD
  have h1 : (decDigits n).isEmpty = false := by
    cases h : decDigits n with
    | nil => exact absurd h (dec_ne n)
    | cons a l => rfl
  rw [h1, List.all_eq_true.2 (dec_isD n)]
  rfl

theorem isD_ne {c d : UInt8} (h : isD c = true) (hd : isD d = false) : c ≠ d := fun e => by rw [e, hd] at h; cases h

theorem index_miss (l : List UInt8) (d : UInt8) (h : ∀ c ∈ l, c ≠ d) : index l [d] = -1 := by
  induction l with
  | nil => rfl
  | cons a l ih =>
    have h1 : ([d] : List UInt8).isPrefixOf (a :: l) = false := by
      have := h a (List.mem_cons_self ..)
      simp [List.isPrefixOf]
      exact fun e => this e.symm
    unfold index
    rw [h1, ih (fun c hc => h c (List.mem_cons_of_mem _ hc))]
    rfl

theorem index_at (l r : List UInt8) (d : UInt8) (h : ∀ c ∈ l, c ≠ d) : index (l ++ d :: r) [d] = (l.length : Int) := by
  induction l with
  | nil =>
    unfold index
    simp [List.isPrefixOf]
  | cons a l ih =>
    have h1 : ([d] : List UInt8).isPrefixOf (a :: (l ++ d :: r)) = false := by
      have := h a (List.mem_cons_self ..)
      simp [List.isPrefixOf]
      exact fun e => this e.symm
    rw [List.cons_append]
    unfold index
    rw [h1, ih (fun c hc => h c (List.mem_cons_of_mem _ hc)), if_neg (by simp), if_neg (by simp)]
    simp

theorem cut_miss (l : List UInt8) (d : UInt8) (h : ∀ c ∈ l, c ≠ d) : cut l [d] = (l, [], false) := by
  unfold cut
  rw [index_miss l d h]
  rfl

theorem cut_at (l r : List UInt8) (d : UInt8) (h : ∀ c ∈ l, c ≠ d) : cut (l ++ d :: r) [d] = (l, r, true) := by
  unfold cut
  rw [index_at l r d h, if_pos (by omega)]
  simp

theorem digits_47 (n : Nat) : ∀ c ∈ decDigits n, c ≠ 47 := fun c hc => isD_ne (dec_isD n c hc) (by decide)

theorem trim_minus (b : Bool) (n : Nat) (r : List UInt8) : hasPrefix ((if b then [45] else []) ++ (decDigits n ++ r)) [45] = b ∧ trimPrefix ((if b then [45] else []) ++ (decDigits n ++ r)) [45] = decDigits n ++ r := by
  cases b
  · have h : hasPrefix (decDigits n ++ r) [45] = false := by
      unfold hasPrefix
      cases hd : decDigits n with
      | nil => exact absurd hd (dec_ne n)
      | cons a l =>
        have h1 : isD a = true := dec_isD n a (by rw [hd]; exact List.mem_cons_self ..)
        have h2 : a ≠ 45 := isD_ne h1 (by decide)
        simp [List.isPrefixOf]
        exact fun e => h2 e.symm
    simp only [Bool.false_eq_true, if_false, List.nil_append]
    refine ⟨h, ?_⟩
    unfold trimPrefix
    rw [h]
    rfl
  · have h : hasPrefix (45 :: (decDigits n ++ r)) [45] = true := by
      unfold hasPrefix
      simp [List.isPrefixOf]
    simp only [if_true, List.singleton_append]
    refine ⟨h, ?_⟩
    unfold trimPrefix
    rw [h]
    rfl

theorem ofR_qtext (q : Rat) : ofR (qtext q) = q := by
  unfold ofR qtext
  have hm := trim_minus (rB q) (rN q) (if q.den = 1 then [] else 47 :: decDigits q.den)
  rw [hm.1, hm.2]
  have key : mkRat (sgq (rB q) (rN q)) q.den = q := by rw [rat_sgn, Rat.mkRat_self]
  by_cases h1 : q.den = 1
  · rw [if_pos h1, List.append_nil]
    unfold downOf
    rw [cut_miss _ _ (digits_47 _)]
    simp only [Bool.false_eq_true, if_false]
    rw [dec_allD, decL_dec, show allD [49] = true by decide, show decL [49] = 1 by decide]
    rw [h1] at key
    simpa using key
  · rw [if_neg h1]
    unfold downOf
    rw [cut_at _ _ _ (digits_47 _)]
    simp only [if_true]
    rw [dec_allD, dec_allD, decL_dec, decL_dec]
    simpa using key

/-- Its parts have at most L words. -/
def QFit (q : Rat) (L : Nat) : Prop := rN q < 4294967296 ^ L ∧ q.den < 4294967296 ^ L

theorem FQ.fit {w : World} {v : Value} {q : Rat} {L : Nat} (h : FQ w v q L) (hL : 0 < L) : QFit q L := by
  obtain ⟨up, down, e, h1, h2, h3, h4⟩ := h
  refine ⟨num_lt' h1, ?_⟩
  rcases h2 with ⟨_, hd⟩ | ⟨hd, _⟩
  · rw [hd]
    exact Nat.one_lt_pow (by omega) (by decide)
  · exact num_lt' hd

theorem dec_fit {n L : Nat} (h : n < 4294967296 ^ L) (hL : 0 < L) : (decDigits n).length ≤ 10 * L := by
  refine dec_len_le (by omega) (Nat.lt_of_lt_of_le h ?_)
  rw [Nat.pow_mul]
  exact Nat.pow_le_pow_left (by decide) L

theorem qtext_len {q : Rat} {L : Nat} (h : QFit q L) (hL : 0 < L) : (qtext q).length ≤ 20 * L + 2 := by
  have h1 := dec_fit h.1 hL
  have h2 := dec_fit h.2 hL
  unfold qtext
  rw [List.length_append, List.length_append]
  have h3 : (if rB q then ([45] : List UInt8) else []).length ≤ 1 := by split <;> simp
  have h4 : (if q.den = 1 then ([] : List UInt8) else 47 :: decDigits q.den).length ≤ 10 * L + 1 := by
    split
    · simp
    · rw [List.length_cons]
      omega
  omega
end Go.Proofs.YtgdiepfknfnmjaaGreatDoor

namespace Go.Proofs.YtgdiepfknfnmjaaGreatDoor
open Go.RowKit Go.Lib
set_option linter.unusedVariables false

theorem pad_isD (k c : Nat) : ∀ x ∈ padD k c, isD x = true := by
  induction k generalizing c with
  | zero => intro x hx; simp [padD] at hx
  | succ k ih =>
    intro x hx
    rw [padD] at hx
    rcases List.mem_append.1 hx with hx | hx
    · exact ih _ x hx
    · simp only [List.mem_singleton] at hx
      subst hx
      exact (isD_digit (Nat.mod_lt _ (by decide))).1

theorem decL_pad (l : List UInt8) (k c : Nat) : decL (l ++ padD k c) = decL l * 10 ^ k + c % 10 ^ k := by
  induction k generalizing c with
  | zero => simp [padD, Nat.mod_one]
  | succ k ih =>
    rw [padD, ← List.append_assoc, decL_snoc, ih, (isD_digit (Nat.mod_lt _ (by decide))).2, Nat.pow_succ]
    have h : c % (10 ^ k * 10) = c / 10 % 10 ^ k * 10 + c % 10 := by
      rw [Nat.mul_comm (10 ^ k) 10, Nat.mod_mul]
      omega
    rw [h, Nat.add_mul, Nat.mul_assoc]
    omega

theorem runD_app (l r : List UInt8) (hl : ∀ c ∈ l, isD c = true) (hr : runD r = 0) : runD (l ++ r) = l.length := by
  induction l with
  | nil => simpa using hr
  | cons c l ih =>
    rw [List.cons_append, runD_cons, if_pos (hl c (by simp)), ih (fun x hx => hl x (by simp [hx]))]
    rfl

/-- The ends that Print writes: read as they were written, and no digit ahead. -/
theorem ends_back : ∀ i < 10, ∀ u ∈ [[], [206, 169], [70], [72], [86], [65], [83], [87], [115], [72, 122]], endR (ptx i ++ u) = some (pwr i, u) ∧ runD (ptx i ++ u) = 0 ∧ Lib.hasPrefix (ptx i ++ u) [46] = false := by
  decide

theorem unit_in {u : List UInt8} (h : unitR u = some u) : u ∈ ([[], [206, 169], [70], [72], [86], [65], [83], [87], [115], [72, 122]] : List (List UInt8)) := by
  unfold unitR at h
  split at h
  · rename_i hh
    simp only [List.mem_cons, List.not_mem_nil, or_false]
    exact hh
  · split at h
    · rename_i h1 h2
      rw [h2] at h
      simp at h
    · simp at h

/-- A decimal with its sign ahead and its ends behind, read. -/
theorem parse_dec (neg : Bool) (n d P i : Nat) (u : List UInt8) (hi : i < 10) (hu : unitR u = some u) (hd : 0 < d) (h0 : n % d * 10 ^ P % d = 0)
    (hlen : ((if neg then [45] else []) ++ decT n d P ++ (ptx i ++ u)).length ≤ 4000) :
    parseR ((if neg then [45] else []) ++ decT n d P ++ (ptx i ++ u)) = (qtext (((sgq neg (n * 10 ^ P / d) : Int) : Rat) * (10 : Rat) ^ (pwr i - P)), u, 0, 0) := by
  obtain ⟨he, hr, hp⟩ := ends_back i hi u (unit_in hu)
  obtain ⟨q1, q2⟩ := whole_parts n d P hd h0
  obtain ⟨E, hE⟩ : ∃ E, E = ptx i ++ u := ⟨_, rfl⟩
  obtain ⟨A, hA⟩ : ∃ A, A = decDigits (n / d) := ⟨_, rfl⟩
  obtain ⟨B, hB⟩ : ∃ B, B = padD P (n % d * 10 ^ P / d) := ⟨_, rfl⟩
  rw [← hE] at he hr hp hlen ⊢
  have hAd : ∀ c ∈ A, isD c = true := by rw [hA]; exact dec_isD _
  have hBd : ∀ c ∈ B, isD c = true := by rw [hB]; exact pad_isD _ _
  have hBl : B.length = P := by rw [hB]; exact padD_length _ _
  have hA0 : 0 < A.length := by rw [hA, decDigits_length]; unfold nDigits; split <;> omega
  have hval : decL (A ++ B) = n * 10 ^ P / d := by rw [hA, hB, decL_pad, decL_dec, q1, Nat.mod_eq_of_lt q2]
  obtain ⟨T, hT⟩ : ∃ T, T = (if P = 0 then ([] : List UInt8) else 46 :: B) := ⟨_, rfl⟩
  have hdec : decT n d P = A ++ T := by rw [decT, ← hA, ← hB, ← hT]
  obtain ⟨S, hS⟩ : ∃ S : List UInt8, S = (if neg then [45] else []) := ⟨_, rfl⟩
  rw [← hS, hdec] at hlen ⊢
  obtain ⟨l, hl⟩ : ∃ l, l = S ++ (A ++ T) ++ E := ⟨_, rfl⟩
  rw [← hl] at hlen ⊢
  have hneg : Lib.hasPrefix l [45] = neg := by
    rw [hl, hS]
    cases neg with
    | true => simp [Lib.hasPrefix, List.isPrefixOf]
    | false =>
      cases hA' : A with
      | nil => rw [hA'] at hA0; simp at hA0
      | cons c r =>
        have hc := hAd c (by rw [hA']; simp)
        have hc45 : (45 : UInt8) ≠ c := by
          intro e
          rw [← e] at hc
          exact absurd hc (by decide)
        simp [Lib.hasPrefix, List.isPrefixOf, hc45]
  have hsg : sgnL l = S.length := by
    rw [sgnL, hneg, hS]
    cases neg <;> rfl
  have hd1 : l.drop (sgnL l) = A ++ (T ++ E) := by
    rw [hsg, hl, List.append_assoc, List.drop_left, List.append_assoc]
  have hTE : runD (T ++ E) = 0 := by
    rw [hT]
    by_cases hP : P = 0
    · rw [if_pos hP]; exact hr
    · rw [if_neg hP, List.cons_append, runD_cons, if_neg (by decide)]
  have hrun : runD (l.drop (sgnL l)) = A.length := by rw [hd1]; exact runD_app A _ hAd hTE
  have htake : (l.drop (sgnL l)).take A.length = A := by rw [hd1, List.take_left]
  have hd2 : l.drop (sgnL l + A.length) = T ++ E := by rw [← List.drop_drop, hd1, List.drop_left]
  rw [parseR, if_neg (by omega), hrun, if_neg (by omega), hd2, htake, hneg]
  by_cases hP : P = 0
  · have hT0 : T = [] := by rw [hT, if_pos hP]
    have hB0 : B = [] := List.eq_nil_of_length_eq_zero (by omega)
    rw [hT0, List.nil_append, if_neg (by rw [hp]; simp), parseEnd, he]
    simp only
    rw [decQ, ← hval, hB0, hP]
    rfl
  · have hT1 : T = 46 :: B := by rw [hT, if_neg hP]
    have hd3 : l.drop (sgnL l + A.length + 1) = B ++ E := by
      rw [← List.drop_drop, hd2, hT1]
      rfl
    have hrun2 : runD (l.drop (sgnL l + A.length + 1)) = P := by rw [hd3, runD_app B E hBd hr, hBl]
    have hd4 : l.drop (sgnL l + A.length + 1 + P) = E := by rw [← List.drop_drop, hd3, ← hBl, List.drop_left]
    rw [if_pos (by rw [hT1]; simp [Lib.hasPrefix, List.isPrefixOf]), hrun2, if_neg hP, hd3, hd4]
    rw [show (B ++ E).take P = B by rw [← hBl, List.take_left], parseEnd, he]
    simp only
    rw [decQ, hval, hBl]
end Go.Proofs.YtgdiepfknfnmjaaGreatDoor

namespace Go.Proofs.YtgdiepfknfnmjaaGreatDoor
open Go.RowKit
set_option linter.unusedVariables false

/-- A prefix that may be written. -/
def okP (p : List UInt8) : Bool := p != [117] && p != [206, 188]

theorem pw_index : ∀ x ∈ pwL, okP x.1 = true → ∃ j, j < 10 ∧ x.2 = pwr j ∧ x.1 = ptx j := by
  intro x hx hp
  simp only [pwL, pfxL, List.mem_cons, List.not_mem_nil, or_false] at hx
  rcases hx with rfl | rfl | rfl | rfl | rfl | rfl | rfl | rfl | rfl | rfl | rfl | rfl
  · exact ⟨4, by decide, rfl, rfl⟩
  · exact ⟨9, by decide, rfl, rfl⟩
  · exact ⟨8, by decide, rfl, rfl⟩
  · exact ⟨7, by decide, rfl, rfl⟩
  · exact absurd hp (by decide)
  · exact ⟨6, by decide, rfl, rfl⟩
  · exact absurd hp (by decide)
  · exact ⟨5, by decide, rfl, rfl⟩
  · exact ⟨3, by decide, rfl, rfl⟩
  · exact ⟨2, by decide, rfl, rfl⟩
  · exact ⟨1, by decide, rfl, rfl⟩
  · exact ⟨0, by decide, rfl, rfl⟩

theorem index_pw : ∀ j < 10, (ptx j, pwr j) ∈ pwL ∧ okP (ptx j) = true := by decide

theorem pwr_falls : ∀ i < 10, ∀ j < 10, i < j → pwr j < pwr i := by decide

theorem pwr_least : ∀ j < 10, pwr j = -15 → j = 9 := by decide

/-- What the walk over the powers comes to. -/
theorem pick_is {a : Rat} (ha : a ≠ 0) {p : List UInt8} {e : Int} (hm : (p, e) ∈ pwL) (hp : okP p = true) (hb : e = -15 ∨ (10 : Rat) ^ e ≤ a)
    (hall : ∀ p' e', (p', e') ∈ pwL → okP p' = true → (10 : Rat) ^ e' ≤ a → e' ≤ e) : e = pwr (pfi a) ∧ p = ptx (pfi a) := by
  obtain ⟨j, hj, h1, h2⟩ := pw_index (p, e) hm hp
  simp only at h1 h2
  have before : ∀ i, i < j → ¬ (10 : Rat) ^ (pwr i) ≤ a := by
    intro i hi hle
    obtain ⟨k1, k2⟩ := index_pw i (by omega)
    have := hall _ _ k1 k2 hle
    have := pwr_falls i (by omega) j hj hi
    omega
  have hpf : pfi a = j := by
    by_cases hle : (10 : Rat) ^ (pwr j) ≤ a
    · exact pfi_some ha hj hle before
    · have hj9 : j = 9 := by
        rcases hb with hb | hb
        · exact pwr_least j hj (by omega)
        · rw [h1] at hb
          exact absurd hb hle
      subst hj9
      exact pfi_none ha (fun i hi => by
        by_cases h : i = 9
        · rw [h]; exact hle
        · exact before i (by omega))
  rw [hpf]
  exact ⟨h1, h2⟩
end Go.Proofs.YtgdiepfknfnmjaaGreatDoor

namespace Go.Proofs.YtgdiepfknfnmjaaGreatDoor
open Go.RowKit Go.Lib
set_option linter.unusedVariables false

theorem abs_mul (q x : Rat) : rN (q * x) = rN (absR q * x) ∧ (q * x).den = (absR q * x).den := by
  unfold absR
  split
  · rw [Rat.neg_mul]
    exact ⟨(Int.natAbs_neg _).symm, rfl⟩
  · exact ⟨rfl, rfl⟩

theorem print_ends (q : Rat) (u : List UInt8) (hu : unitR u = some u) (n d a b : Nat) (hn : n = rN (absR q * (10 : Rat) ^ (-pwr (pfi (absR q))))) (hd : d = (absR q * (10 : Rat) ^ (-pwr (pfi (absR q)))).den) (hab : d = 2 ^ a * 5 ^ b) :
    printR q u = if (decT n d (max a b)).length ≤ 4000 then ((if q < 0 then [45] else []) ++ decT n d (max a b) ++ (ptx (pfi (absR q)) ++ u), 0) else ([], 6) := by
  obtain ⟨e1, e2⟩ := abs_mul q ((10 : Rat) ^ (-pwr (pfi (absR q))))
  have hc : Nat.gcd n d = 1 := by rw [hn, hd]; exact (absR q * (10 : Rat) ^ (-pwr (pfi (absR q)))).reduced
  have hd0 : 0 < d := by rw [hd]; exact Rat.den_pos _
  obtain ⟨h0, h1⟩ := ends_at hc hab
  unfold printR
  rw [if_neg (by rw [hu]; simp), e1, e2, ← hn, ← hd, decAns_ends n d (max a b) 4000 hd0 h0 h1]
  by_cases hl : (decT n d (max a b)).length ≤ 4000
  · rw [if_pos hl, if_pos hl]
    rfl
  · rw [if_neg hl, if_neg hl]
    rfl

theorem print_never (q : Rat) (u : List UInt8) (hu : unitR u = some u) (d k g : Nat) (hd : d = (absR q * (10 : Rat) ^ (-pwr (pfi (absR q)))).den) (hk : d = k * g) (h2 : g % 2 ≠ 0) (h5 : g % 5 ≠ 0) (h1 : g ≠ 1) : printR q u = ([], 6) := by
  obtain ⟨e1, e2⟩ := abs_mul q ((10 : Rat) ^ (-pwr (pfi (absR q))))
  obtain ⟨n, hn⟩ : ∃ n, n = rN (absR q * (10 : Rat) ^ (-pwr (pfi (absR q)))) := ⟨_, rfl⟩
  have hc : Nat.gcd n d = 1 := by rw [hn, hd]; exact (absR q * (10 : Rat) ^ (-pwr (pfi (absR q)))).reduced
  have hd0 : 0 < d := by rw [hd]; exact Rat.den_pos _
  unfold printR
  rw [if_neg (by rw [hu]; simp), e1, e2, ← hn, ← hd, decAns_never n d 4000 hd0 (ends_never hc hd0 hk h2 h5 h1)]
  rfl

/-- A fraction times a power of ten that makes it whole. -/
theorem scaled (r : Rat) (hr : 0 ≤ r.num) (P : Nat) (h : rN r * 10 ^ P % r.den = 0) : r * (10 : Rat) ^ (P : Int) = (((rN r * 10 ^ P / r.den : Nat) : Int) : Rat) := by
  obtain ⟨N, hN⟩ : ∃ N, N = rN r * 10 ^ P / r.den := ⟨_, rfl⟩
  have hmul : rN r * 10 ^ P = N * r.den := by
    rw [hN]
    exact (Nat.div_mul_cancel (Nat.dvd_of_mod_eq_zero h)).symm
  rw [← hN]
  have hnum : r.num = (rN r : Int) := by unfold rN; omega
  have hden : ((r.den : Int) : Rat) ≠ 0 := by
    intro e
    have := r.den_pos
    have h0 : (r.den : Int) = 0 := by exact_mod_cast e
    omega
  have hten : (10 : Rat) ^ (P : Int) = (((10 ^ P : Nat) : Int) : Rat) := by
    rw [Rat.zpow_natCast]
    norm_cast
  have hr2 : r * ((r.den : Int) : Rat) = ((rN r : Int) : Rat) := by
    rw [← hnum]
    have h1 : r = (r.num : Rat) / ((r.den : Int) : Rat) := by
      have := Rat.mkRat_self r
      rw [Rat.mkRat_eq_div] at this
      exact this.symm
    conv => lhs; lhs; rw [h1]
    exact Rat.div_mul_cancel hden
  have hkey : r * (10 : Rat) ^ (P : Int) * ((r.den : Int) : Rat) = ((N : Int) : Rat) * ((r.den : Int) : Rat) := by
    rw [Rat.mul_assoc, Rat.mul_comm ((10 : Rat) ^ (P : Int)), ← Rat.mul_assoc, hr2, hten, ← Rat.intCast_mul, ← Rat.intCast_mul, ← Int.natCast_mul, ← Int.natCast_mul, hmul]
  have h3 := congrArg (· / ((r.den : Int) : Rat)) hkey
  simp only [Rat.mul_div_cancel hden] at h3
  exact h3
end Go.Proofs.YtgdiepfknfnmjaaGreatDoor

namespace Go.Proofs.YtgdiepfknfnmjaaGreatDoor
open Go.RowKit Go.Lib
set_option linter.unusedVariables false

theorem decL_lt (l : List UInt8) (h : ∀ c ∈ l, isD c = true) : decL l < 10 ^ l.length := by
  induction l with
  | nil => simp [decL]
  | cons c l ih =>
    have e := dec_from l (c.toNat - 48)
    have hc := h c (by simp)
    have h1 : c.toNat - 48 ≤ 9 := by
      unfold isD at hc
      simp only [Bool.and_eq_true, decide_eq_true_eq] at hc
      omega
    have h2 := ih (fun x hx => h x (by simp [hx]))
    have h3 : decL (c :: l) = (c.toNat - 48) * 10 ^ l.length + decL l := by
      rw [← e]
      unfold decL
      simp
    rw [h3, List.length_cons, Nat.pow_succ]
    have h4 : (c.toNat - 48) * 10 ^ l.length ≤ 9 * 10 ^ l.length := Nat.mul_le_mul_right _ h1
    omega

theorem den_mk_le (x : Int) (y : Nat) : (mkRat x y).den ≤ max y 1 := by
  by_cases hy : 0 < y
  · obtain ⟨_, e2⟩ := low_mk x y hy
    rw [← e2]
    unfold low2
    exact Nat.le_trans (Nat.div_le_self _ _) (Nat.le_max_left _ _)
  · obtain rfl : y = 0 := by omega
    rw [Rat.mkRat_zero]
    decide

theorem den_mul_le (p q : Rat) : (p * q).den ≤ p.den * q.den := by
  have h := den_mk_le (p.num * q.num) (p.den * q.den)
  rw [← Rat.mul_def' p q] at h
  have := Nat.mul_pos p.den_pos q.den_pos
  omega

theorem den_of (l : List UInt8) : (ofR l).den ≤ 10 ^ (l.length + 1) := by
  have hone : 1 ≤ 10 ^ (l.length + 1) := Nat.pow_pos (by decide)
  unfold ofR
  split
  · rename_i h
    rw [Bool.and_eq_true] at h
    have hd := allD_all h.2
    have h1 := den_mk_le (sgq (Lib.hasPrefix l [45]) (decL (Lib.cut (Lib.trimPrefix l [45]) [47]).1)) (decL (downOf (Lib.trimPrefix l [45])))
    have h2 := decL_lt _ hd
    have hlen : (downOf (Lib.trimPrefix l [45])).length ≤ l.length + 1 := by
      unfold downOf
      split
      · have := (cut_le (Lib.trimPrefix l [45]) [47]).2
        have := trimPrefix_le l [45]
        omega
      · simp
    have h3 : 10 ^ (downOf (Lib.trimPrefix l [45])).length ≤ 10 ^ (l.length + 1) := Nat.pow_le_pow_right (by decide) hlen
    omega
  · exact hone

theorem pwr_den : ∀ i < 10, ((10 : Rat) ^ (-pwr i)).den ≤ 10 ^ 12 := by
  decide +kernel

theorem den_small (l : List UInt8) (i : Nat) (hi : i < 10) : (absR (ofR l) * (10 : Rat) ^ (-pwr i)).den < 2 ^ (4 * (l.length + 14)) := by
  have h1 := den_mul_le (absR (ofR l)) ((10 : Rat) ^ (-pwr i))
  have h2 : (absR (ofR l)).den ≤ 10 ^ (l.length + 1) := by rw [(abs_parts (ofR l)).2.2]; exact den_of l
  have h3 := pwr_den i hi
  have h4 : (absR (ofR l)).den * ((10 : Rat) ^ (-pwr i)).den ≤ 10 ^ (l.length + 1) * 10 ^ 12 := Nat.mul_le_mul h2 h3
  rw [← Nat.pow_add] at h4
  have h5 : 10 ^ (l.length + 1 + 12) ≤ 16 ^ (l.length + 13) := Nat.pow_le_pow_left (by decide) _
  have h6 : 16 ^ (l.length + 13) < 16 ^ (l.length + 14) := (Nat.pow_lt_pow_iff_right (by decide)).2 (by omega)
  rw [Nat.pow_mul]
  show _ < 16 ^ (l.length + 14)
  omega

theorem strip_small {f d k e B : Nat} (hf : 2 ≤ f) (he : 0 < e) (h : d = f ^ k * e) (hd : d < 2 ^ B) : k < B := by
  have h1 : 2 ^ k ≤ f ^ k := Nat.pow_le_pow_left hf k
  have h2 : f ^ k ≤ f ^ k * e := Nat.le_mul_of_pos_right _ he
  exact (Nat.pow_lt_pow_iff_right (a := 2) (by decide)).1 (by omega)
end Go.Proofs.YtgdiepfknfnmjaaGreatDoor

namespace Go.Proofs.YtgdiepfknfnmjaaGreatDoor
open Go.RowKit
set_option linter.unusedVariables false
set_option linter.unusedSimpArgs false

set_option maxHeartbeats 4000000 in
theorem rTenB_at (z : Int) (w : World) (h1 : -20000000 ≤ z) (h2 : z ≤ 20000000) :
    Calls Tryz.prog 27 #[.int .i64 z] w fun e w' => ∃ b, e = .returned (.pointer (some ⟨b, 0, none⟩)) ∧ RQ w' b ((10 : Rat) ^ z) (4 + 6 * z.natAbs) ∧ w.grownBy w' none := by
  go_enter Tryz.func27, Tryz.ntmps27
  go_wp2_with fail
  refine (rN_at 1 _ (by omega) (by omega)).mono ?_
  rintro e w1 ⟨b, rfl, a1, a2, a3⟩
  have A1 := hide a1
  have A2 := hide a2
  clear a1 a2 a3
  go_wp2
  go_loopg [0, 3] z.natAbs (fun g nv rv wr => Hid (TenR w z 4 g nv rv wr))
  case atStart =>
    refine ⟨z, b, rfl, rfl, Nat.le_refl _, fun h => h, fun h => h, ?_, A2.out, rfl⟩
    rw [Int.sub_self, Rat.zpow_zero]
    exact A1.out
  case round =>
    obtain ⟨k, b, rfl, rfl, t1, t2, t3, t4, t5, t6⟩ := hrel.out
    have T4 := hide t4
    have T5 := hide t5
    clear t4 t5 hrel A1 A2
    by_cases hk : 0 < k
    · go_wp2_with fail
      refine (rN_at 10 _ (by omega) (by omega)).mono ?_
      rintro e w2 ⟨b2, rfl, c1, c2, c3⟩
      have C1 := hide c1
      have C2 := hide c2
      clear c1 c2 c3
      go_wp2_with fail
      refine (rMul_at b b2 _ _ _ _ _ (T4.out.keep0 C2.out) C1.out (by omega)).mono ?_
      rintro e w3 ⟨b3, rfl, d1, d2, d3⟩
      have D1 := hide d1
      have D2 := hide d2
      clear d1 d2 d3
      go_wp2
      go_roundg (k - 1).natAbs
      case measure => omega
      case rel =>
        refine ⟨k - 1, b3, by go_num, rfl, by omega, fun h => by omega, fun h => by omega, ?_, gr_none T5.out (gr_none C2.out D2.out), rfl⟩
        have hd := D1.out
        rw [show (((10 : Int) : Rat)) = (10 : Rat) from rfl, ← Rat.zpow_add_one ten_ne] at hd
        rw [show z - (k - 1) = z - k + 1 from by omega]
        exact hd.mono (by omega)
    · have hk2 : k ≤ 0 := by omega
      have HT : Hid (TenR w z 4 k.natAbs (.int .i64 k) (.pointer (some ⟨b, 0, none⟩)) wr) := ⟨k, b, rfl, rfl, t1, t2, t3, T4.out, T5.out, rfl⟩
      clear T4 T5
      go_wp2
      go_loopg [0, 3] k.natAbs (fun g nv rv wr => Hid (TenR w z 4 g nv rv wr ∧ ∃ k : Int, nv = .int .i64 k ∧ k ≤ 0))
      case atStart => exact ⟨HT.out, k, rfl, hk2⟩
      case round =>
        clear HT hk hk2 t1 t2 t3 t6
        obtain ⟨⟨k, b, rfl, rfl, t1, t2, t3, t4, t5, t6⟩, k2, e2, hk2⟩ := hrel.out
        simp only [Value.int.injEq, true_and] at e2
        subst e2
        have T4 := hide t4
        have T5 := hide t5
        clear t4 t5 hrel
        by_cases hk : k < 0
        · go_wp2_with fail
          refine (rN_at 10 _ (by omega) (by omega)).mono ?_
          rintro e w2 ⟨b2, rfl, c1, c2, c3⟩
          have C1 := hide c1
          have C2 := hide c2
          clear c1 c2 c3
          go_wp2_with fail
          refine (rQuo_at b b2 _ _ 10 _ _ _ (T4.out.keep0 C2.out) C1.out rfl (by omega) (by omega)).mono ?_
          rintro e w3 ⟨b3, rfl, d1, d2, d3⟩
          have D1 := hide d1
          have D2 := hide d2
          clear d1 d2 d3
          go_wp2
          go_roundg (k + 1).natAbs
          case measure => omega
          case rel =>
            refine ⟨⟨k + 1, b3, by go_num, rfl, by omega, fun h => by omega, fun h => by omega, ?_, gr_none T5.out (gr_none C2.out D2.out), rfl⟩, k + 1, by go_num, by omega⟩
            have hd := D1.out
            rw [show (((10 : Int) : Rat)) = (10 : Rat) from rfl, Rat.div_def, ← Rat.zpow_sub_one ten_ne] at hd
            rw [show z - (k + 1) = z - k - 1 from by omega]
            exact hd.mono (by omega)
        · obtain rfl : k = 0 := by omega
          go_wp2
          go_ret
          refine ⟨b, rfl, ?_, T5.out⟩
          have h4 := T4.out
          rw [Int.sub_zero] at h4
          exact h4
end Go.Proofs.YtgdiepfknfnmjaaGreatDoor
