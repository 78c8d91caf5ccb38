/- voltaicbig: Rat.Mul: its region, whatever the order: a lemma for each set of operations that have come up (written by gen/genmulq.py). -/
import Derived.Test.YtklkpkkjakllfaaGreatDoorXBh
import Derived.Test.YtklkpkkjakllfaaGreatDoorXNorm
set_option linter.unusedVariables false
set_option linter.unusedSimpArgs false
set_option maxHeartbeats 1000000
namespace Go.Proofs.YtklkpkkjakllfaaGreatDoor
open Go.RowKit
def mulOps : Array Oper := #[{ dst := some 7, op := Op.move (Operand.tmp 0), type := 26, pos := "rat.go:130", after := #[], guard := none },
  { dst := some 8, op := Op.alloc 52, type := 55, pos := "rat.go:130", after := #[], guard := none },
  { dst := some 9, op := Op.move (Operand.tmp 1), type := 26, pos := "rat.go:130", after := #[], guard := none },
  { dst := some 10, op := Op.nilCheck (Operand.tmp 9), type := 0, pos := "rat.go:130", after := #[{ on := 2, ground := Ground.data }], guard := none },
  { dst := some 11, op := Op.fieldAddr 54 (Operand.tmp 10) 0, type := 0, pos := "rat.go:130", after := #[{ on := 3, ground := Ground.data }], guard := none },
  { dst := some 12, op := Op.move (Operand.tmp 2), type := 26, pos := "rat.go:130", after := #[], guard := none },
  { dst := some 13, op := Op.nilCheck (Operand.tmp 12), type := 0, pos := "rat.go:130", after := #[{ on := 5, ground := Ground.data }], guard := none },
  { dst := some 14, op := Op.fieldAddr 54 (Operand.tmp 13) 0, type := 0, pos := "rat.go:130", after := #[{ on := 6, ground := Ground.data }], guard := none },
  { dst := some 15, op := Op.call { callee := Callee.value (Operand.func 92), args := #[Operand.tmp 8, Operand.tmp 11, Operand.tmp 14], argTypes := #[55, 55, 55] }, type := 55, pos := "rat.go:130", after := #[{ on := 1, ground := Ground.data }, { on := 4, ground := Ground.data }, { on := 7, ground := Ground.data }], guard := none },
  { dst := some 16, op := Op.alloc 52, type := 55, pos := "rat.go:130", after := #[], guard := none },
  { dst := some 17, op := Op.move (Operand.tmp 1), type := 26, pos := "rat.go:130", after := #[], guard := none },
  { dst := some 18, op := Op.call { callee := Callee.value (Operand.func 90), args := #[Operand.tmp 17], argTypes := #[26] }, type := 55, pos := "rat.go:130", after := #[{ on := 10, ground := Ground.data }, { on := 8, ground := Ground.chain }], guard := none },
  { dst := some 19, op := Op.move (Operand.tmp 2), type := 26, pos := "rat.go:130", after := #[], guard := none },
  { dst := some 20, op := Op.call { callee := Callee.value (Operand.func 90), args := #[Operand.tmp 19], argTypes := #[26] }, type := 55, pos := "rat.go:130", after := #[{ on := 12, ground := Ground.data }, { on := 11, ground := Ground.chain }], guard := none },
  { dst := some 21, op := Op.call { callee := Callee.value (Operand.func 92), args := #[Operand.tmp 16, Operand.tmp 18, Operand.tmp 20], argTypes := #[55, 55, 55] }, type := 55, pos := "rat.go:130", after := #[{ on := 9, ground := Ground.data }, { on := 11, ground := Ground.data }, { on := 13, ground := Ground.data }, { on := 13, ground := Ground.chain }], guard := none },
  { dst := some 22, op := Op.call { callee := Callee.value (Operand.func 23), args := #[Operand.tmp 7, Operand.tmp 15, Operand.tmp 21], argTypes := #[26, 55, 55] }, type := 26, pos := "rat.go:130", after := #[{ on := 0, ground := Ground.data }, { on := 8, ground := Ground.data }, { on := 14, ground := Ground.data }, { on := 14, ground := Ground.chain }], guard := none },
  { dst := some 6, op := Op.assign (Operand.tmp 22), type := 26, pos := "rat.go:130", after := #[{ on := 15, ground := Ground.data }, { on := 15, ground := Ground.chain }, { on := 0, ground := Ground.phase }, { on := 1, ground := Ground.phase }, { on := 2, ground := Ground.phase }, { on := 3, ground := Ground.phase }, { on := 4, ground := Ground.phase }, { on := 5, ground := Ground.phase }, { on := 6, ground := Ground.phase }, { on := 7, ground := Ground.phase }, { on := 8, ground := Ground.phase }, { on := 9, ground := Ground.phase }, { on := 10, ground := Ground.phase }, { on := 11, ground := Ground.phase }, { on := 12, ground := Ground.phase }, { on := 13, ground := Ground.phase }, { on := 14, ground := Ground.phase }, { on := 15, ground := Ground.phase }], guard := none }]
structure mulH (bz bx bY : Nat) (n1 n2 : Bool) (v1 v2 : Value) (x1 y1 : Int) (x2 y2 L M : Nat) (w0 : World) (Q : Exit → Act → World → Prop) : Prop where
  hz1 : Box w0 bz 0 n1 v1
  hz2 : Box w0 bz 2 n2 v2
  dx : DenC w0 bx x2 L
  dy : DenC w0 bY y2 M
  hne : (x2 : Int) * (y2 : Int) ≠ 0
  hL : L + M ≤ 3900000000000
  hQ : ∀ (d1 o1 d2 o2 p8 p16 : Nat) (w : World), RPut w0 w bz ∧ RatAt w bz (low1 (upS (x1 * y1) ((x2 : Int) * (y2 : Int))) ((x2 : Int) * (y2 : Int)).natAbs) (low2 (upS (x1 * y1) ((x2 : Int) * (y2 : Int))) ((x2 : Int) * (y2 : Int)).natAbs) (L + M + 2) → Q .normal ⟨#[pp bz 0, pp bx 0, pp bY 0, undef, undef, undef, pp bz 0, pp bz 0, pp p8 0, pp bx 0, pp bx 0, pp bx 0, pp bY 0, pp bY 0, pp bY 0, pp p8 0, pp p16 0, pp bx 0, pp d1 o1, pp bY 0, pp d2 o2, pp p16 0, pp bz 0], []⟩ w
section
variable {bz bx bY : Nat} {n1 n2 : Bool} {v1 v2 : Value} {x1 y1 : Int} {x2 y2 L M : Nat} {w0 : World} {Q : Exit → Act → World → Prop}
theorem mulT_6_1_9_ (h : mulH bz bx bY n1 n2 v1 v2 x1 y1 x2 y2 L M w0 Q)  (d1 o1 d2 o2 p8 p16 : Nat) (w : World) (m : RPut w0 w bz ∧ RatAt w bz (low1 (upS (x1 * y1) ((x2 : Int) * (y2 : Int))) ((x2 : Int) * (y2 : Int)).natAbs) (low2 (upS (x1 * y1) ((x2 : Int) * (y2 : Int))) ((x2 : Int) * (y2 : Int)).natAbs) (L + M + 2)) :
    wpAny Tryz.prog .any mulOps Q 0 #[true, true, true, true, true, true, true, true, true, true, true, true, true, true, true, true, true] ⟨#[pp bz 0, pp bx 0, pp bY 0, undef, undef, undef, pp bz 0, pp bz 0, pp p8 0, pp bx 0, pp bx 0, pp bx 0, pp bY 0, pp bY 0, pp bY 0, pp p8 0, pp p16 0, pp bx 0, pp d1 o1, pp bY 0, pp d2 o2, pp p16 0, pp bz 0], []⟩ w := by
  have hL := h.hL
  unfold pp
  refine wpAny_done (by kernel_rfl) ?_ _
  exact h.hQ d1 o1 d2 o2 p8 p16 w m
theorem mulT_5_1_9_ (h : mulH bz bx bY n1 n2 v1 v2 x1 y1 x2 y2 L M w0 Q)  (d1 o1 d2 o2 p8 p16 : Nat) (w : World) (m : RPut w0 w bz ∧ RatAt w bz (low1 (upS (x1 * y1) ((x2 : Int) * (y2 : Int))) ((x2 : Int) * (y2 : Int)).natAbs) (low2 (upS (x1 * y1) ((x2 : Int) * (y2 : Int))) ((x2 : Int) * (y2 : Int)).natAbs) (L + M + 2)) :
    wpAny Tryz.prog .any mulOps Q 1 #[true, true, true, true, true, true, true, true, true, true, true, true, true, true, true, true, false] ⟨#[pp bz 0, pp bx 0, pp bY 0, undef, undef, undef, .pointer none, pp bz 0, pp p8 0, pp bx 0, pp bx 0, pp bx 0, pp bY 0, pp bY 0, pp bY 0, pp p8 0, pp p16 0, pp bx 0, pp d1 o1, pp bY 0, pp d2 o2, pp p16 0, pp bz 0], []⟩ w := by
  have hL := h.hL
  unfold pp
  refine wpAny_ready (rs := [16]) (by kernel_rfl) (by simp) ?_
  refine AllReady.cons (o := { dst := some 6, op := Op.assign (Operand.tmp 22), type := 26, pos := "rat.go:130", after := #[{ on := 15, ground := Ground.data }, { on := 15, ground := Ground.chain }, { on := 0, ground := Ground.phase }, { on := 1, ground := Ground.phase }, { on := 2, ground := Ground.phase }, { on := 3, ground := Ground.phase }, { on := 4, ground := Ground.phase }, { on := 5, ground := Ground.phase }, { on := 6, ground := Ground.phase }, { on := 7, ground := Ground.phase }, { on := 8, ground := Ground.phase }, { on := 9, ground := Ground.phase }, { on := 10, ground := Ground.phase }, { on := 11, ground := Ground.phase }, { on := 12, ground := Ground.phase }, { on := 13, ground := Ground.phase }, { on := 14, ground := Ground.phase }, { on := 15, ground := Ground.phase }], guard := none }) rfl (fun K hK => ?_) ?_
  · go_simp
    refine hK _ _ ?_
    exact mulT_6_1_9_ h d1 o1 d2 o2 p8 p16 _ m
  exact AllReady.nil
theorem mulT_4_1_9_ (h : mulH bz bx bY n1 n2 v1 v2 x1 y1 x2 y2 L M w0 Q)  (d1 o1 d2 o2 p8 p16 : Nat) (w : World) (m : Mem w0 w [] [⟨p16, 0, (x2 : Int) * (y2 : Int), L + M⟩, ⟨d2, o2, (y2 : Int), M⟩, ⟨d1, o1, (x2 : Int), L⟩, ⟨p8, 0, x1 * y1, L + M⟩, ⟨bx, 0, x1, L⟩, ⟨bY, 0, y1, M⟩]) :
    wpAny Tryz.prog .any mulOps Q 2 #[true, true, true, true, true, true, true, true, true, true, true, true, true, true, true, false, false] ⟨#[pp bz 0, pp bx 0, pp bY 0, undef, undef, undef, .pointer none, pp bz 0, pp p8 0, pp bx 0, pp bx 0, pp bx 0, pp bY 0, pp bY 0, pp bY 0, pp p8 0, pp p16 0, pp bx 0, pp d1 o1, pp bY 0, pp d2 o2, pp p16 0, undef], []⟩ w := by
  have hL := h.hL
  unfold pp
  refine wpAny_ready (rs := [15]) (by kernel_rfl) (by simp) ?_
  refine AllReady.cons (o := { dst := some 22, op := Op.call { callee := Callee.value (Operand.func 23), args := #[Operand.tmp 7, Operand.tmp 15, Operand.tmp 21], argTypes := #[26, 55, 55] }, type := 26, pos := "rat.go:130", after := #[{ on := 0, ground := Ground.data }, { on := 8, ground := Ground.data }, { on := 14, ground := Ground.data }, { on := 14, ground := Ground.chain }], guard := none }) rfl (fun K hK => ?_) ?_
  · go_simp
    refine (setFrac_any bz p8 0 p16 0 n1 n2 v1 v2 (x1 * y1) ((x2 : Int) * (y2 : Int)) (L + M) _ (h.hz1.keep0 m.gr) (h.hz2.keep0 m.gr) (m.away (L := L + M) (by simp)) (m.away (L := L + M) (by simp)) h.hne (by omega)).mono ?_
    rintro e w1 ⟨rfl, k1, k2⟩
    have m1 := And.intro ((RPut.of_gr (b := bz) m.gr).trans k1) k2
    go_wp2
    exact mulT_5_1_9_ h d1 o1 d2 o2 p8 p16 _ m1
  exact AllReady.nil
theorem mulT_3_1_9_ (h : mulH bz bx bY n1 n2 v1 v2 x1 y1 x2 y2 L M w0 Q)  (d1 o1 d2 o2 p8 p16 : Nat) (w : World) (m : Mem w0 w [p16] [⟨d2, o2, (y2 : Int), M⟩, ⟨d1, o1, (x2 : Int), L⟩, ⟨p8, 0, x1 * y1, L + M⟩, ⟨bx, 0, x1, L⟩, ⟨bY, 0, y1, M⟩]) :
    wpAny Tryz.prog .any mulOps Q 3 #[true, true, true, true, true, true, true, true, true, true, true, true, true, true, false, false, false] ⟨#[pp bz 0, pp bx 0, pp bY 0, undef, undef, undef, .pointer none, pp bz 0, pp p8 0, pp bx 0, pp bx 0, pp bx 0, pp bY 0, pp bY 0, pp bY 0, pp p8 0, pp p16 0, pp bx 0, pp d1 o1, pp bY 0, pp d2 o2, undef, undef], []⟩ w := by
  have hL := h.hL
  unfold pp
  refine wpAny_ready (rs := [14]) (by kernel_rfl) (by simp) ?_
  refine AllReady.cons (o := { dst := some 21, op := Op.call { callee := Callee.value (Operand.func 92), args := #[Operand.tmp 16, Operand.tmp 18, Operand.tmp 20], argTypes := #[55, 55, 55] }, type := 55, pos := "rat.go:130", after := #[{ on := 9, ground := Ground.data }, { on := 11, ground := Ground.data }, { on := 13, ground := Ground.data }, { on := 13, ground := Ground.chain }], guard := none }) rfl (fun K hK => ?_) ?_
  · go_simp
    refine (Mem.mul (A := []) (B := []) m (x := (x2 : Int)) (y := (y2 : Int)) (L := L) (M := M) (by simp) (by simp) (by omega)).mono ?_
    rintro e w1 ⟨rfl, m1⟩
    go_wp2
    exact mulT_4_1_9_ h d1 o1 d2 o2 p8 p16 _ m1
  exact AllReady.nil
theorem mulT_3_1_ (h : mulH bz bx bY n1 n2 v1 v2 x1 y1 x2 y2 L M w0 Q)  (d1 o1 d2 o2 p8 : Nat) (w : World) (m : Mem w0 w [] [⟨d2, o2, (y2 : Int), M⟩, ⟨d1, o1, (x2 : Int), L⟩, ⟨p8, 0, x1 * y1, L + M⟩, ⟨bx, 0, x1, L⟩, ⟨bY, 0, y1, M⟩]) :
    wpAny Tryz.prog .any mulOps Q 4 #[true, true, true, true, true, true, true, true, true, false, true, true, true, true, false, false, false] ⟨#[pp bz 0, pp bx 0, pp bY 0, undef, undef, undef, .pointer none, pp bz 0, pp p8 0, pp bx 0, pp bx 0, pp bx 0, pp bY 0, pp bY 0, pp bY 0, pp p8 0, undef, pp bx 0, pp d1 o1, pp bY 0, pp d2 o2, undef, undef], []⟩ w := by
  have hL := h.hL
  unfold pp
  refine wpAny_ready (rs := [9]) (by kernel_rfl) (by simp) ?_
  refine AllReady.cons (o := { dst := some 16, op := Op.alloc 52, type := 55, pos := "rat.go:130", after := #[], guard := none }) rfl (fun K hK => ?_) ?_
  · go_simp
    refine hK _ _ ?_
    exact mulT_3_1_9_ h d1 o1 d2 o2 p8 w.heap.size _ (Mem.alloc (A := []) (B := []) m)
  exact AllReady.nil
theorem mulT_2_1_9_ (h : mulH bz bx bY n1 n2 v1 v2 x1 y1 x2 y2 L M w0 Q)  (d1 o1 p8 p16 : Nat) (w : World) (m : Mem w0 w [p16] [⟨d1, o1, (x2 : Int), L⟩, ⟨p8, 0, x1 * y1, L + M⟩, ⟨bx, 0, x1, L⟩, ⟨bY, 0, y1, M⟩]) :
    wpAny Tryz.prog .any mulOps Q 4 #[true, true, true, true, true, true, true, true, true, true, true, true, true, false, false, false, false] ⟨#[pp bz 0, pp bx 0, pp bY 0, undef, undef, undef, .pointer none, pp bz 0, pp p8 0, pp bx 0, pp bx 0, pp bx 0, pp bY 0, pp bY 0, pp bY 0, pp p8 0, pp p16 0, pp bx 0, pp d1 o1, pp bY 0, undef, undef, undef], []⟩ w := by
  have hL := h.hL
  unfold pp
  refine wpAny_ready (rs := [13]) (by kernel_rfl) (by simp) ?_
  refine AllReady.cons (o := { dst := some 20, op := Op.call { callee := Callee.value (Operand.func 90), args := #[Operand.tmp 19], argTypes := #[26] }, type := 55, pos := "rat.go:130", after := #[{ on := 12, ground := Ground.data }, { on := 11, ground := Ground.chain }], guard := none }) rfl (fun K hK => ?_) ?_
  · go_simp
    refine (h.dy _ _ _ m).mono ?_
    rintro e w1 ⟨d2, o2, rfl, _, m1⟩
    go_wp2
    exact mulT_3_1_9_ h d1 o1 d2 o2 p8 p16 _ m1
  exact AllReady.nil
theorem mulT_2_1_ (h : mulH bz bx bY n1 n2 v1 v2 x1 y1 x2 y2 L M w0 Q)  (d1 o1 p8 : Nat) (w : World) (m : Mem w0 w [] [⟨d1, o1, (x2 : Int), L⟩, ⟨p8, 0, x1 * y1, L + M⟩, ⟨bx, 0, x1, L⟩, ⟨bY, 0, y1, M⟩]) :
    wpAny Tryz.prog .any mulOps Q 5 #[true, true, true, true, true, true, true, true, true, false, true, true, true, false, false, false, false] ⟨#[pp bz 0, pp bx 0, pp bY 0, undef, undef, undef, .pointer none, pp bz 0, pp p8 0, pp bx 0, pp bx 0, pp bx 0, pp bY 0, pp bY 0, pp bY 0, pp p8 0, undef, pp bx 0, pp d1 o1, pp bY 0, undef, undef, undef], []⟩ w := by
  have hL := h.hL
  unfold pp
  refine wpAny_ready (rs := [9, 13]) (by kernel_rfl) (by simp) ?_
  refine AllReady.cons (o := { dst := some 16, op := Op.alloc 52, type := 55, pos := "rat.go:130", after := #[], guard := none }) rfl (fun K hK => ?_) ?_
  · go_simp
    refine hK _ _ ?_
    exact mulT_2_1_9_ h d1 o1 p8 w.heap.size _ (Mem.alloc (A := []) (B := []) m)
  refine AllReady.cons (o := { dst := some 20, op := Op.call { callee := Callee.value (Operand.func 90), args := #[Operand.tmp 19], argTypes := #[26] }, type := 55, pos := "rat.go:130", after := #[{ on := 12, ground := Ground.data }, { on := 11, ground := Ground.chain }], guard := none }) rfl (fun K hK => ?_) ?_
  · go_simp
    refine (h.dy _ _ _ m).mono ?_
    rintro e w1 ⟨d2, o2, rfl, _, m1⟩
    go_wp2
    exact mulT_3_1_ h d1 o1 d2 o2 p8 _ m1
  exact AllReady.nil
theorem mulT_1_1_9_ (h : mulH bz bx bY n1 n2 v1 v2 x1 y1 x2 y2 L M w0 Q)  (p8 p16 : Nat) (w : World) (m : Mem w0 w [p16] [⟨p8, 0, x1 * y1, L + M⟩, ⟨bx, 0, x1, L⟩, ⟨bY, 0, y1, M⟩]) :
    wpAny Tryz.prog .any mulOps Q 5 #[true, true, true, true, true, true, true, true, true, true, true, false, true, false, false, false, false] ⟨#[pp bz 0, pp bx 0, pp bY 0, undef, undef, undef, .pointer none, pp bz 0, pp p8 0, pp bx 0, pp bx 0, pp bx 0, pp bY 0, pp bY 0, pp bY 0, pp p8 0, pp p16 0, pp bx 0, undef, pp bY 0, undef, undef, undef], []⟩ w := by
  have hL := h.hL
  unfold pp
  refine wpAny_ready (rs := [11]) (by kernel_rfl) (by simp) ?_
  refine AllReady.cons (o := { dst := some 18, op := Op.call { callee := Callee.value (Operand.func 90), args := #[Operand.tmp 17], argTypes := #[26] }, type := 55, pos := "rat.go:130", after := #[{ on := 10, ground := Ground.data }, { on := 8, ground := Ground.chain }], guard := none }) rfl (fun K hK => ?_) ?_
  · go_simp
    refine (h.dx _ _ _ m).mono ?_
    rintro e w1 ⟨d1, o1, rfl, _, m1⟩
    go_wp2
    exact mulT_2_1_9_ h d1 o1 p8 p16 _ m1
  exact AllReady.nil
theorem mulT_1_1_ (h : mulH bz bx bY n1 n2 v1 v2 x1 y1 x2 y2 L M w0 Q)  (p8 : Nat) (w : World) (m : Mem w0 w [] [⟨p8, 0, x1 * y1, L + M⟩, ⟨bx, 0, x1, L⟩, ⟨bY, 0, y1, M⟩]) :
    wpAny Tryz.prog .any mulOps Q 6 #[true, true, true, true, true, true, true, true, true, false, true, false, true, false, false, false, false] ⟨#[pp bz 0, pp bx 0, pp bY 0, undef, undef, undef, .pointer none, pp bz 0, pp p8 0, pp bx 0, pp bx 0, pp bx 0, pp bY 0, pp bY 0, pp bY 0, pp p8 0, undef, pp bx 0, undef, pp bY 0, undef, undef, undef], []⟩ w := by
  have hL := h.hL
  unfold pp
  refine wpAny_ready (rs := [9, 11]) (by kernel_rfl) (by simp) ?_
  refine AllReady.cons (o := { dst := some 16, op := Op.alloc 52, type := 55, pos := "rat.go:130", after := #[], guard := none }) rfl (fun K hK => ?_) ?_
  · go_simp
    refine hK _ _ ?_
    exact mulT_1_1_9_ h p8 w.heap.size _ (Mem.alloc (A := []) (B := []) m)
  refine AllReady.cons (o := { dst := some 18, op := Op.call { callee := Callee.value (Operand.func 90), args := #[Operand.tmp 17], argTypes := #[26] }, type := 55, pos := "rat.go:130", after := #[{ on := 10, ground := Ground.data }, { on := 8, ground := Ground.chain }], guard := none }) rfl (fun K hK => ?_) ?_
  · go_simp
    refine (h.dx _ _ _ m).mono ?_
    rintro e w1 ⟨d1, o1, rfl, _, m1⟩
    go_wp2
    exact mulT_2_1_ h d1 o1 p8 _ m1
  exact AllReady.nil
theorem mulT_0_1_9_ (h : mulH bz bx bY n1 n2 v1 v2 x1 y1 x2 y2 L M w0 Q)  (p8 p16 : Nat) (w : World) (m : Mem w0 w [p8, p16] [⟨bx, 0, x1, L⟩, ⟨bY, 0, y1, M⟩]) :
    wpAny Tryz.prog .any mulOps Q 6 #[true, true, true, true, true, true, true, true, false, true, true, false, true, false, false, false, false] ⟨#[pp bz 0, pp bx 0, pp bY 0, undef, undef, undef, .pointer none, pp bz 0, pp p8 0, pp bx 0, pp bx 0, pp bx 0, pp bY 0, pp bY 0, pp bY 0, undef, pp p16 0, pp bx 0, undef, pp bY 0, undef, undef, undef], []⟩ w := by
  have hL := h.hL
  unfold pp
  refine wpAny_ready (rs := [8]) (by kernel_rfl) (by simp) ?_
  refine AllReady.cons (o := { dst := some 15, op := Op.call { callee := Callee.value (Operand.func 92), args := #[Operand.tmp 8, Operand.tmp 11, Operand.tmp 14], argTypes := #[55, 55, 55] }, type := 55, pos := "rat.go:130", after := #[{ on := 1, ground := Ground.data }, { on := 4, ground := Ground.data }, { on := 7, ground := Ground.data }], guard := none }) rfl (fun K hK => ?_) ?_
  · go_simp
    refine (Mem.mul (A := []) (B := [p16]) m (x := x1) (y := y1) (L := L) (M := M) (by simp) (by simp) (by omega)).mono ?_
    rintro e w1 ⟨rfl, m1⟩
    go_wp2
    exact mulT_1_1_9_ h p8 p16 _ m1
  exact AllReady.nil
theorem mulT_0_1_ (h : mulH bz bx bY n1 n2 v1 v2 x1 y1 x2 y2 L M w0 Q)  (p8 : Nat) (w : World) (m : Mem w0 w [p8] [⟨bx, 0, x1, L⟩, ⟨bY, 0, y1, M⟩]) :
    wpAny Tryz.prog .any mulOps Q 7 #[true, true, true, true, true, true, true, true, false, false, true, false, true, false, false, false, false] ⟨#[pp bz 0, pp bx 0, pp bY 0, undef, undef, undef, .pointer none, pp bz 0, pp p8 0, pp bx 0, pp bx 0, pp bx 0, pp bY 0, pp bY 0, pp bY 0, undef, undef, pp bx 0, undef, pp bY 0, undef, undef, undef], []⟩ w := by
  have hL := h.hL
  unfold pp
  refine wpAny_ready (rs := [8, 9]) (by kernel_rfl) (by simp) ?_
  refine AllReady.cons (o := { dst := some 15, op := Op.call { callee := Callee.value (Operand.func 92), args := #[Operand.tmp 8, Operand.tmp 11, Operand.tmp 14], argTypes := #[55, 55, 55] }, type := 55, pos := "rat.go:130", after := #[{ on := 1, ground := Ground.data }, { on := 4, ground := Ground.data }, { on := 7, ground := Ground.data }], guard := none }) rfl (fun K hK => ?_) ?_
  · go_simp
    refine (Mem.mul (A := []) (B := []) m (x := x1) (y := y1) (L := L) (M := M) (by simp) (by simp) (by omega)).mono ?_
    rintro e w1 ⟨rfl, m1⟩
    go_wp2
    exact mulT_1_1_ h p8 _ m1
  refine AllReady.cons (o := { dst := some 16, op := Op.alloc 52, type := 55, pos := "rat.go:130", after := #[], guard := none }) rfl (fun K hK => ?_) ?_
  · go_simp
    refine hK _ _ ?_
    exact mulT_0_1_9_ h p8 w.heap.size _ (Mem.alloc (A := [p8]) (B := []) m)
  exact AllReady.nil
theorem mulT_0_9_ (h : mulH bz bx bY n1 n2 v1 v2 x1 y1 x2 y2 L M w0 Q)  (p16 : Nat) (w : World) (m : Mem w0 w [p16] [⟨bx, 0, x1, L⟩, ⟨bY, 0, y1, M⟩]) :
    wpAny Tryz.prog .any mulOps Q 7 #[true, false, true, true, true, true, true, true, false, true, true, false, true, false, false, false, false] ⟨#[pp bz 0, pp bx 0, pp bY 0, undef, undef, undef, .pointer none, pp bz 0, undef, pp bx 0, pp bx 0, pp bx 0, pp bY 0, pp bY 0, pp bY 0, undef, pp p16 0, pp bx 0, undef, pp bY 0, undef, undef, undef], []⟩ w := by
  have hL := h.hL
  unfold pp
  refine wpAny_ready (rs := [1]) (by kernel_rfl) (by simp) ?_
  refine AllReady.cons (o := { dst := some 8, op := Op.alloc 52, type := 55, pos := "rat.go:130", after := #[], guard := none }) rfl (fun K hK => ?_) ?_
  · go_simp
    refine hK _ _ ?_
    exact mulT_0_1_9_ h w.heap.size p16 _ (Mem.alloc (A := []) (B := [p16]) m)
  exact AllReady.nil
theorem mulT_0_ (h : mulH bz bx bY n1 n2 v1 v2 x1 y1 x2 y2 L M w0 Q)  (w : World) (m : Mem w0 w [] [⟨bx, 0, x1, L⟩, ⟨bY, 0, y1, M⟩]) :
    wpAny Tryz.prog .any mulOps Q 8 #[true, false, true, true, true, true, true, true, false, false, true, false, true, false, false, false, false] ⟨#[pp bz 0, pp bx 0, pp bY 0, undef, undef, undef, .pointer none, pp bz 0, undef, pp bx 0, pp bx 0, pp bx 0, pp bY 0, pp bY 0, pp bY 0, undef, undef, pp bx 0, undef, pp bY 0, undef, undef, undef], []⟩ w := by
  have hL := h.hL
  unfold pp
  refine wpAny_ready (rs := [1, 9]) (by kernel_rfl) (by simp) ?_
  refine AllReady.cons (o := { dst := some 8, op := Op.alloc 52, type := 55, pos := "rat.go:130", after := #[], guard := none }) rfl (fun K hK => ?_) ?_
  · go_simp
    refine hK _ _ ?_
    exact mulT_0_1_ h w.heap.size _ (Mem.alloc (A := []) (B := []) m)
  refine AllReady.cons (o := { dst := some 16, op := Op.alloc 52, type := 55, pos := "rat.go:130", after := #[], guard := none }) rfl (fun K hK => ?_) ?_
  · go_simp
    refine hK _ _ ?_
    exact mulT_0_9_ h w.heap.size _ (Mem.alloc (A := []) (B := []) m)
  exact AllReady.nil
end
end Go.Proofs.YtklkpkkjakllfaaGreatDoor
