/- voltaicbig: Int.Cmp, whatever the signs. -/
import Derived.Test.YtdpagdlmpajjkafGreatDoorXBh
namespace Go.Proofs.YtdpagdlmpajjkafGreatDoor
open Go.RowKit
set_option linter.unusedVariables false
set_option linter.unusedSimpArgs false
def ordI (x y : Int) : Int := if x < y then -1 else if x = y then 0 else 1
theorem ordI_zero (x y : Int) : (ordI x y = 0) ↔ x = y := by
  unfold ordI
  repeat' split
  all_goals omega
theorem ordI_pos (m n : Nat) (x y : Int) (hx : x = m) (hy : y = n) : ord m n = ordI x y := by
  unfold ordI ord
  repeat' split
  all_goals omega
theorem ordI_neg (m n : Nat) (x y : Int) (hx : x = -(m : Int)) (hy : y = -(n : Int)) : -ord m n = ordI x y := by
  unfold ordI ord
  repeat' split
  all_goals omega
set_option maxHeartbeats 4000000 in
theorem intCmpZ_at (bx ox bY oY : Nat) (x y : Int) (L M : Nat) (w : World) (hX : IntAt w bx ox x L) (hY : IntAt w bY oY y M) :
    Calls Tryz.prog 81 #[.pointer (some ⟨bx, ox, none⟩), .pointer (some ⟨bY, oY, none⟩)] w fun e w' => e = .returned (.int .i64 (ordI x y)) ∧ w.grownBy w' none := by
  obtain ⟨nx, vx, x1, x2, x3, x4⟩ := hX
  obtain ⟨ny, vy, y1, y2, y3, y4⟩ := hY
  have X2 := hide x2
  have Y2 := hide y2
  have c0 := x1.c0
  have c1 := x1.c1
  have d0 := y1.c0
  have d1 := y1.c1
  have X3 := hide x3
  have Y3 := hide y3
  clear x1 x2 x3 x4 y1 y2 y3 y4
  cases nx
  · cases ny
    · have h1 : x = (x.natAbs : Int) := by have := of_decide_eq_false X3.out.symm; omega
      have h2 : y = (y.natAbs : Int) := by have := of_decide_eq_false Y3.out.symm; omega
      have H := hide (ordI_pos _ _ x y h1 h2)
      clear h1 h2
      go_enter Tryz.func81, Tryz.ntmps81
      go_wp2
      go_quiet (fail)
      go_wp2
      go_region_with (go_at_call 157; refine (cmp_num _ _ x.natAbs y.natAbs L M _ (X2.out.keep0 (by first | exact gr_refl _ _ | (refine gr_drewN ?_ _; first | exact gr_refl _ _ | exact gr_drewN (gr_refl _ _) _))) (Y2.out.keep0 (by first | exact gr_refl _ _ | (refine gr_drewN ?_ _; first | exact gr_refl _ _ | exact gr_drewN (gr_refl _ _) _)))).mono ?_; rintro e w2 ⟨rfl, qq, rfl⟩)
      all_goals
        go_wp2
        go_ret
        exact ⟨congrArg (fun z => Ending.returned (.int .i64 z)) H.out, by repeat (first | exact gr_refl _ _ | refine gr_drewN ?_ _)⟩
    · have h1 := of_decide_eq_false X3.out.symm
      have h2 := of_decide_eq_true Y3.out.symm
      have H : Hid (ordI x y = 1) := by unfold Hid ordI; rw [if_neg (by omega), if_neg (by omega)]
      clear h1 h2
      go_enter Tryz.func81, Tryz.ntmps81
      go_wp2
      go_quiet (fail)
      go_wp2
      go_ret
      exact ⟨congrArg (fun z => Ending.returned (.int .i64 z)) H.out.symm, by repeat (first | exact gr_refl _ _ | refine gr_drewN ?_ _)⟩
  · cases ny
    · have h1 := of_decide_eq_true X3.out.symm
      have h2 := of_decide_eq_false Y3.out.symm
      have H : Hid (ordI x y = -1) := by unfold Hid ordI; rw [if_pos (by omega)]
      clear h1 h2
      go_enter Tryz.func81, Tryz.ntmps81
      go_wp2
      go_quiet (fail)
      go_wp2
      go_ret
      exact ⟨congrArg (fun z => Ending.returned (.int .i64 z)) H.out.symm, by repeat (first | exact gr_refl _ _ | refine gr_drewN ?_ _)⟩
    · have h1 : x = -(x.natAbs : Int) := by have := of_decide_eq_true X3.out.symm; omega
      have h2 : y = -(y.natAbs : Int) := by have := of_decide_eq_true Y3.out.symm; omega
      have H := hide (ordI_neg _ _ x y h1 h2)
      have hw : IntKind.i64.wrap (-ord x.natAbs y.natAbs) = -ord x.natAbs y.natAbs := by unfold ord; (repeat' split) <;> decide
      clear h1 h2
      go_enter Tryz.func81, Tryz.ntmps81
      go_wp2
      go_quiet (fail)
      go_wp2
      go_region_with (go_at_call 157; refine (cmp_num _ _ x.natAbs y.natAbs L M _ (X2.out.keep0 (by first | exact gr_refl _ _ | (refine gr_drewN ?_ _; first | exact gr_refl _ _ | exact gr_drewN (gr_refl _ _) _))) (Y2.out.keep0 (by first | exact gr_refl _ _ | (refine gr_drewN ?_ _; first | exact gr_refl _ _ | exact gr_drewN (gr_refl _ _) _)))).mono ?_; rintro e w2 ⟨rfl, qq, rfl⟩)
      all_goals
        go_wp2
        go_ret
        exact ⟨congrArg (fun z => Ending.returned (.int .i64 z)) H.out, by repeat (first | exact gr_refl _ _ | refine gr_drewN ?_ _)⟩
end Go.Proofs.YtdpagdlmpajjkafGreatDoor

namespace Go.Proofs.YtdpagdlmpajjkafGreatDoor
open Go.RowKit
set_option linter.unusedVariables false
set_option linter.unusedSimpArgs false
def cmpOps : Array Oper := #[{ dst := some 18, op := Op.alloc 67, type := 102, pos := "rat.go:96", after := #[], guard := none },
  { dst := some 19, op := Op.move (Operand.tmp 0), type := 34, pos := "rat.go:96", after := #[], guard := none },
  { dst := some 20, op := Op.nilCheck (Operand.tmp 19), type := 0, pos := "rat.go:96", after := #[{ on := 1, ground := Ground.data }], guard := none },
  { dst := some 21, op := Op.fieldAddr 69 (Operand.tmp 20) 0, type := 0, pos := "rat.go:96", after := #[{ on := 2, ground := Ground.data }], guard := none },
  { dst := some 22, op := Op.move (Operand.tmp 1), type := 34, pos := "rat.go:96", after := #[], guard := none },
  { dst := some 23, op := Op.call { callee := Callee.value (Operand.func 80), args := #[Operand.tmp 22], argTypes := #[34] }, type := 102, pos := "rat.go:96", after := #[{ on := 4, ground := Ground.data }], guard := none },
  { dst := some 24, op := Op.call { callee := Callee.value (Operand.func 82), args := #[Operand.tmp 18, Operand.tmp 21, Operand.tmp 23], argTypes := #[102, 102, 102] }, type := 102, pos := "rat.go:96", after := #[{ on := 0, ground := Ground.data }, { on := 3, ground := Ground.data }, { on := 5, ground := Ground.data }, { on := 5, ground := Ground.chain }], guard := none },
  { dst := some 25, op := Op.alloc 67, type := 102, pos := "rat.go:96", after := #[], guard := none },
  { dst := some 26, op := Op.move (Operand.tmp 1), type := 34, pos := "rat.go:96", after := #[], guard := none },
  { dst := some 27, op := Op.nilCheck (Operand.tmp 26), type := 0, pos := "rat.go:96", after := #[{ on := 8, ground := Ground.data }], guard := none },
  { dst := some 28, op := Op.fieldAddr 69 (Operand.tmp 27) 0, type := 0, pos := "rat.go:96", after := #[{ on := 9, ground := Ground.data }], guard := none },
  { dst := some 29, op := Op.move (Operand.tmp 0), type := 34, pos := "rat.go:96", after := #[], guard := none },
  { dst := some 30, op := Op.call { callee := Callee.value (Operand.func 80), args := #[Operand.tmp 29], argTypes := #[34] }, type := 102, pos := "rat.go:96", after := #[{ on := 11, ground := Ground.data }, { on := 6, ground := Ground.chain }], guard := none },
  { dst := some 31, op := Op.call { callee := Callee.value (Operand.func 82), args := #[Operand.tmp 25, Operand.tmp 28, Operand.tmp 30], argTypes := #[102, 102, 102] }, type := 102, pos := "rat.go:96", after := #[{ on := 7, ground := Ground.data }, { on := 10, ground := Ground.data }, { on := 12, ground := Ground.data }, { on := 12, ground := Ground.chain }], guard := none },
  { dst := some 32, op := Op.call { callee := Callee.value (Operand.func 81), args := #[Operand.tmp 24, Operand.tmp 31], argTypes := #[102, 102] }, type := 3, pos := "rat.go:96", after := #[{ on := 6, ground := Ground.data }, { on := 13, ground := Ground.data }, { on := 13, ground := Ground.chain }], guard := none },
  { dst := some 4, op := Op.assign (Operand.tmp 32), type := 3, pos := "rat.go:96", after := #[{ on := 14, ground := Ground.data }, { on := 14, ground := Ground.chain }, { on := 0, ground := Ground.phase }, { on := 1, ground := Ground.phase }, { on := 2, ground := Ground.phase }, { on := 3, ground := Ground.phase }, { on := 4, ground := Ground.phase }, { on := 5, ground := Ground.phase }, { on := 6, ground := Ground.phase }, { on := 7, ground := Ground.phase }, { on := 8, ground := Ground.phase }, { on := 9, ground := Ground.phase }, { on := 10, ground := Ground.phase }, { on := 11, ground := Ground.phase }, { on := 12, ground := Ground.phase }, { on := 13, ground := Ground.phase }, { on := 14, ground := Ground.phase }], guard := none }]
structure cmpH (bx bY : Nat) (s5 s6 s7 s8 s9 s10 : Value) (x1 y1 : Int) (x2 y2 L M : Nat) (w0 : World) (Q : Exit → Act → World → Prop) : Prop where
  dx : DenC w0 bx x2 L
  dy : DenC w0 bY y2 M
  hL : L + M ≤ 4000000000000
  hQ : ∀ (d1 o1 d2 o2 p9 p16 : Nat) (w : World), w0.grownBy w none → Q .normal ⟨#[pp bx 0, pp bY 0, undef, undef, .int .i64 (ordI (x1 * (y2 : Int)) (y1 * (x2 : Int))), s5, s6, s7, s8, s9, s10, undef, undef, undef, undef, undef, undef, undef, pp p9 0, pp bx 0, pp bx 0, pp bx 0, pp bY 0, pp d1 o1, pp p9 0, pp p16 0, pp bY 0, pp bY 0, pp bY 0, pp bx 0, pp d2 o2, pp p16 0, .int .i64 (ordI (x1 * (y2 : Int)) (y1 * (x2 : Int)))], []⟩ w
section
variable {bx bY : Nat} {s5 s6 s7 s8 s9 s10 : Value} {x1 y1 : Int} {x2 y2 L M : Nat} {w0 : World} {Q : Exit → Act → World → Prop}
set_option maxHeartbeats 1000000 in
theorem cmpT_6_0_7_ (h : cmpH bx bY s5 s6 s7 s8 s9 s10 x1 y1 x2 y2 L M w0 Q)  (d1 o1 d2 o2 p9 p16 : Nat) (w : World) (m : Mem w0 w [] [⟨p16, 0, y1 * (x2 : Int), M + L⟩, ⟨d2, o2, (x2 : Int), L⟩, ⟨p9, 0, x1 * (y2 : Int), L + M⟩, ⟨d1, o1, (y2 : Int), M⟩, ⟨bx, 0, x1, L⟩, ⟨bY, 0, y1, M⟩]) :
    wpAny Tryz.prog .any cmpOps Q 0 #[true, true, true, true, true, true, true, true, true, true, true, true, true, true, true, true] ⟨#[pp bx 0, pp bY 0, undef, undef, .int .i64 (ordI (x1 * (y2 : Int)) (y1 * (x2 : Int))), s5, s6, s7, s8, s9, s10, undef, undef, undef, undef, undef, undef, undef, pp p9 0, pp bx 0, pp bx 0, pp bx 0, pp bY 0, pp d1 o1, pp p9 0, pp p16 0, pp bY 0, pp bY 0, pp bY 0, pp bx 0, pp d2 o2, pp p16 0, .int .i64 (ordI (x1 * (y2 : Int)) (y1 * (x2 : Int)))], []⟩ w := by
  have hL := h.hL
  unfold pp
  refine wpAny_done (by kernel_rfl) ?_ _
  exact h.hQ d1 o1 d2 o2 p9 p16 w m.gr
set_option maxHeartbeats 1000000 in
theorem cmpT_5_0_7_ (h : cmpH bx bY s5 s6 s7 s8 s9 s10 x1 y1 x2 y2 L M w0 Q)  (d1 o1 d2 o2 p9 p16 : Nat) (w : World) (m : Mem w0 w [] [⟨p16, 0, y1 * (x2 : Int), M + L⟩, ⟨d2, o2, (x2 : Int), L⟩, ⟨p9, 0, x1 * (y2 : Int), L + M⟩, ⟨d1, o1, (y2 : Int), M⟩, ⟨bx, 0, x1, L⟩, ⟨bY, 0, y1, M⟩]) :
    wpAny Tryz.prog .any cmpOps Q 1 #[true, true, true, true, true, true, true, true, true, true, true, true, true, true, true, false] ⟨#[pp bx 0, pp bY 0, undef, undef, .int .i64 0, s5, s6, s7, s8, s9, s10, undef, undef, undef, undef, undef, undef, undef, pp p9 0, pp bx 0, pp bx 0, pp bx 0, pp bY 0, pp d1 o1, pp p9 0, pp p16 0, pp bY 0, pp bY 0, pp bY 0, pp bx 0, pp d2 o2, pp p16 0, .int .i64 (ordI (x1 * (y2 : Int)) (y1 * (x2 : Int)))], []⟩ w := by
  have hL := h.hL
  unfold pp
  refine wpAny_ready (rs := [15]) (by kernel_rfl) (by simp) ?_
  refine AllReady.cons (o := { dst := some 4, op := Op.assign (Operand.tmp 32), type := 3, pos := "rat.go:96", after := #[{ on := 14, ground := Ground.data }, { on := 14, ground := Ground.chain }, { on := 0, ground := Ground.phase }, { on := 1, ground := Ground.phase }, { on := 2, ground := Ground.phase }, { on := 3, ground := Ground.phase }, { on := 4, ground := Ground.phase }, { on := 5, ground := Ground.phase }, { on := 6, ground := Ground.phase }, { on := 7, ground := Ground.phase }, { on := 8, ground := Ground.phase }, { on := 9, ground := Ground.phase }, { on := 10, ground := Ground.phase }, { on := 11, ground := Ground.phase }, { on := 12, ground := Ground.phase }, { on := 13, ground := Ground.phase }, { on := 14, ground := Ground.phase }], guard := none }) rfl (fun K hK => ?_) ?_
  · go_simp
    refine hK _ _ ?_
    exact cmpT_6_0_7_ h d1 o1 d2 o2 p9 p16 _ m
  exact AllReady.nil
set_option maxHeartbeats 1000000 in
theorem cmpT_4_0_7_ (h : cmpH bx bY s5 s6 s7 s8 s9 s10 x1 y1 x2 y2 L M w0 Q)  (d1 o1 d2 o2 p9 p16 : Nat) (w : World) (m : Mem w0 w [] [⟨p16, 0, y1 * (x2 : Int), M + L⟩, ⟨d2, o2, (x2 : Int), L⟩, ⟨p9, 0, x1 * (y2 : Int), L + M⟩, ⟨d1, o1, (y2 : Int), M⟩, ⟨bx, 0, x1, L⟩, ⟨bY, 0, y1, M⟩]) :
    wpAny Tryz.prog .any cmpOps Q 2 #[true, true, true, true, true, true, true, true, true, true, true, true, true, true, false, false] ⟨#[pp bx 0, pp bY 0, undef, undef, .int .i64 0, s5, s6, s7, s8, s9, s10, undef, undef, undef, undef, undef, undef, undef, pp p9 0, pp bx 0, pp bx 0, pp bx 0, pp bY 0, pp d1 o1, pp p9 0, pp p16 0, pp bY 0, pp bY 0, pp bY 0, pp bx 0, pp d2 o2, pp p16 0, undef], []⟩ w := by
  have hL := h.hL
  unfold pp
  refine wpAny_ready (rs := [14]) (by kernel_rfl) (by simp) ?_
  refine AllReady.cons (o := { dst := some 32, op := Op.call { callee := Callee.value (Operand.func 81), args := #[Operand.tmp 24, Operand.tmp 31], argTypes := #[102, 102] }, type := 3, pos := "rat.go:96", after := #[{ on := 6, ground := Ground.data }, { on := 13, ground := Ground.data }, { on := 13, ground := Ground.chain }], guard := none }) rfl (fun K hK => ?_) ?_
  · go_simp
    refine (intCmpZ_at p9 0 p16 0 (x1 * (y2 : Int)) (y1 * (x2 : Int)) (L + M) (M + L) _ (m.away (by simp)) (m.away (by simp))).mono ?_
    rintro e w1 ⟨rfl, g⟩
    have m1 := m.grow g
    go_wp2
    exact cmpT_5_0_7_ h d1 o1 d2 o2 p9 p16 _ m1
  exact AllReady.nil
set_option maxHeartbeats 1000000 in
theorem cmpT_3_0_7_ (h : cmpH bx bY s5 s6 s7 s8 s9 s10 x1 y1 x2 y2 L M w0 Q)  (d1 o1 d2 o2 p9 p16 : Nat) (w : World) (m : Mem w0 w [p16] [⟨d2, o2, (x2 : Int), L⟩, ⟨p9, 0, x1 * (y2 : Int), L + M⟩, ⟨d1, o1, (y2 : Int), M⟩, ⟨bx, 0, x1, L⟩, ⟨bY, 0, y1, M⟩]) :
    wpAny Tryz.prog .any cmpOps Q 3 #[true, true, true, true, true, true, true, true, true, true, true, true, true, false, false, false] ⟨#[pp bx 0, pp bY 0, undef, undef, .int .i64 0, s5, s6, s7, s8, s9, s10, undef, undef, undef, undef, undef, undef, undef, pp p9 0, pp bx 0, pp bx 0, pp bx 0, pp bY 0, pp d1 o1, pp p9 0, pp p16 0, pp bY 0, pp bY 0, pp bY 0, pp bx 0, pp d2 o2, undef, undef], []⟩ w := by
  have hL := h.hL
  unfold pp
  refine wpAny_ready (rs := [13]) (by kernel_rfl) (by simp) ?_
  refine AllReady.cons (o := { dst := some 31, op := Op.call { callee := Callee.value (Operand.func 82), args := #[Operand.tmp 25, Operand.tmp 28, Operand.tmp 30], argTypes := #[102, 102, 102] }, type := 102, pos := "rat.go:96", after := #[{ on := 7, ground := Ground.data }, { on := 10, ground := Ground.data }, { on := 12, ground := Ground.data }, { on := 12, ground := Ground.chain }], guard := none }) rfl (fun K hK => ?_) ?_
  · go_simp
    refine (Mem.mul (A := []) (B := []) m (x := y1) (y := (x2 : Int)) (L := M) (M := L) (by simp) (by simp) (by omega)).mono ?_
    rintro e w1 ⟨rfl, m1⟩
    go_wp2
    exact cmpT_4_0_7_ h d1 o1 d2 o2 p9 p16 _ m1
  exact AllReady.nil
set_option maxHeartbeats 1000000 in
theorem cmpT_3_0_ (h : cmpH bx bY s5 s6 s7 s8 s9 s10 x1 y1 x2 y2 L M w0 Q)  (d1 o1 d2 o2 p9 : Nat) (w : World) (m : Mem w0 w [] [⟨d2, o2, (x2 : Int), L⟩, ⟨p9, 0, x1 * (y2 : Int), L + M⟩, ⟨d1, o1, (y2 : Int), M⟩, ⟨bx, 0, x1, L⟩, ⟨bY, 0, y1, M⟩]) :
    wpAny Tryz.prog .any cmpOps Q 4 #[true, true, true, true, true, true, true, false, true, true, true, true, true, false, false, false] ⟨#[pp bx 0, pp bY 0, undef, undef, .int .i64 0, s5, s6, s7, s8, s9, s10, undef, undef, undef, undef, undef, undef, undef, pp p9 0, pp bx 0, pp bx 0, pp bx 0, pp bY 0, pp d1 o1, pp p9 0, undef, pp bY 0, pp bY 0, pp bY 0, pp bx 0, pp d2 o2, undef, undef], []⟩ w := by
  have hL := h.hL
  unfold pp
  refine wpAny_ready (rs := [7]) (by kernel_rfl) (by simp) ?_
  refine AllReady.cons (o := { dst := some 25, op := Op.alloc 67, type := 102, pos := "rat.go:96", after := #[], guard := none }) rfl (fun K hK => ?_) ?_
  · go_simp
    refine hK _ _ ?_
    exact cmpT_3_0_7_ h d1 o1 d2 o2 p9 w.heap.size _ (Mem.alloc (A := []) (B := []) m)
  exact AllReady.nil
set_option maxHeartbeats 1000000 in
theorem cmpT_2_0_7_ (h : cmpH bx bY s5 s6 s7 s8 s9 s10 x1 y1 x2 y2 L M w0 Q)  (d1 o1 p9 p16 : Nat) (w : World) (m : Mem w0 w [p16] [⟨p9, 0, x1 * (y2 : Int), L + M⟩, ⟨d1, o1, (y2 : Int), M⟩, ⟨bx, 0, x1, L⟩, ⟨bY, 0, y1, M⟩]) :
    wpAny Tryz.prog .any cmpOps Q 4 #[true, true, true, true, true, true, true, true, true, true, true, true, false, false, false, false] ⟨#[pp bx 0, pp bY 0, undef, undef, .int .i64 0, s5, s6, s7, s8, s9, s10, undef, undef, undef, undef, undef, undef, undef, pp p9 0, pp bx 0, pp bx 0, pp bx 0, pp bY 0, pp d1 o1, pp p9 0, pp p16 0, pp bY 0, pp bY 0, pp bY 0, pp bx 0, undef, undef, undef], []⟩ w := by
  have hL := h.hL
  unfold pp
  refine wpAny_ready (rs := [12]) (by kernel_rfl) (by simp) ?_
  refine AllReady.cons (o := { dst := some 30, op := Op.call { callee := Callee.value (Operand.func 80), args := #[Operand.tmp 29], argTypes := #[34] }, type := 102, pos := "rat.go:96", after := #[{ on := 11, ground := Ground.data }, { on := 6, ground := Ground.chain }], guard := none }) rfl (fun K hK => ?_) ?_
  · go_simp
    refine (h.dx _ _ _ m).mono ?_
    rintro e w1 ⟨d2, o2, rfl, _, m1⟩
    go_wp2
    exact cmpT_3_0_7_ h d1 o1 d2 o2 p9 p16 _ m1
  exact AllReady.nil
set_option maxHeartbeats 1000000 in
theorem cmpT_2_0_ (h : cmpH bx bY s5 s6 s7 s8 s9 s10 x1 y1 x2 y2 L M w0 Q)  (d1 o1 p9 : Nat) (w : World) (m : Mem w0 w [] [⟨p9, 0, x1 * (y2 : Int), L + M⟩, ⟨d1, o1, (y2 : Int), M⟩, ⟨bx, 0, x1, L⟩, ⟨bY, 0, y1, M⟩]) :
    wpAny Tryz.prog .any cmpOps Q 5 #[true, true, true, true, true, true, true, false, true, true, true, true, false, false, false, false] ⟨#[pp bx 0, pp bY 0, undef, undef, .int .i64 0, s5, s6, s7, s8, s9, s10, undef, undef, undef, undef, undef, undef, undef, pp p9 0, pp bx 0, pp bx 0, pp bx 0, pp bY 0, pp d1 o1, pp p9 0, undef, pp bY 0, pp bY 0, pp bY 0, pp bx 0, undef, undef, undef], []⟩ w := by
  have hL := h.hL
  unfold pp
  refine wpAny_ready (rs := [7, 12]) (by kernel_rfl) (by simp) ?_
  refine AllReady.cons (o := { dst := some 25, op := Op.alloc 67, type := 102, pos := "rat.go:96", after := #[], guard := none }) rfl (fun K hK => ?_) ?_
  · go_simp
    refine hK _ _ ?_
    exact cmpT_2_0_7_ h d1 o1 p9 w.heap.size _ (Mem.alloc (A := []) (B := []) m)
  refine AllReady.cons (o := { dst := some 30, op := Op.call { callee := Callee.value (Operand.func 80), args := #[Operand.tmp 29], argTypes := #[34] }, type := 102, pos := "rat.go:96", after := #[{ on := 11, ground := Ground.data }, { on := 6, ground := Ground.chain }], guard := none }) rfl (fun K hK => ?_) ?_
  · go_simp
    refine (h.dx _ _ _ m).mono ?_
    rintro e w1 ⟨d2, o2, rfl, _, m1⟩
    go_wp2
    exact cmpT_3_0_ h d1 o1 d2 o2 p9 _ m1
  exact AllReady.nil
set_option maxHeartbeats 1000000 in
theorem cmpT_1_0_7_ (h : cmpH bx bY s5 s6 s7 s8 s9 s10 x1 y1 x2 y2 L M w0 Q)  (d1 o1 p9 p16 : Nat) (w : World) (m : Mem w0 w [p9, p16] [⟨d1, o1, (y2 : Int), M⟩, ⟨bx, 0, x1, L⟩, ⟨bY, 0, y1, M⟩]) :
    wpAny Tryz.prog .any cmpOps Q 5 #[true, true, true, true, true, true, false, true, true, true, true, true, false, false, false, false] ⟨#[pp bx 0, pp bY 0, undef, undef, .int .i64 0, s5, s6, s7, s8, s9, s10, undef, undef, undef, undef, undef, undef, undef, pp p9 0, pp bx 0, pp bx 0, pp bx 0, pp bY 0, pp d1 o1, undef, pp p16 0, pp bY 0, pp bY 0, pp bY 0, pp bx 0, undef, undef, undef], []⟩ w := by
  have hL := h.hL
  unfold pp
  refine wpAny_ready (rs := [6]) (by kernel_rfl) (by simp) ?_
  refine AllReady.cons (o := { dst := some 24, op := Op.call { callee := Callee.value (Operand.func 82), args := #[Operand.tmp 18, Operand.tmp 21, Operand.tmp 23], argTypes := #[102, 102, 102] }, type := 102, pos := "rat.go:96", after := #[{ on := 0, ground := Ground.data }, { on := 3, ground := Ground.data }, { on := 5, ground := Ground.data }, { on := 5, ground := Ground.chain }], guard := none }) rfl (fun K hK => ?_) ?_
  · go_simp
    refine (Mem.mul (A := []) (B := [p16]) m (x := x1) (y := (y2 : Int)) (L := L) (M := M) (by simp) (by simp) (by omega)).mono ?_
    rintro e w1 ⟨rfl, m1⟩
    go_wp2
    exact cmpT_2_0_7_ h d1 o1 p9 p16 _ m1
  exact AllReady.nil
set_option maxHeartbeats 1000000 in
theorem cmpT_1_0_ (h : cmpH bx bY s5 s6 s7 s8 s9 s10 x1 y1 x2 y2 L M w0 Q)  (d1 o1 p9 : Nat) (w : World) (m : Mem w0 w [p9] [⟨d1, o1, (y2 : Int), M⟩, ⟨bx, 0, x1, L⟩, ⟨bY, 0, y1, M⟩]) :
    wpAny Tryz.prog .any cmpOps Q 6 #[true, true, true, true, true, true, false, false, true, true, true, true, false, false, false, false] ⟨#[pp bx 0, pp bY 0, undef, undef, .int .i64 0, s5, s6, s7, s8, s9, s10, undef, undef, undef, undef, undef, undef, undef, pp p9 0, pp bx 0, pp bx 0, pp bx 0, pp bY 0, pp d1 o1, undef, undef, pp bY 0, pp bY 0, pp bY 0, pp bx 0, undef, undef, undef], []⟩ w := by
  have hL := h.hL
  unfold pp
  refine wpAny_ready (rs := [6, 7]) (by kernel_rfl) (by simp) ?_
  refine AllReady.cons (o := { dst := some 24, op := Op.call { callee := Callee.value (Operand.func 82), args := #[Operand.tmp 18, Operand.tmp 21, Operand.tmp 23], argTypes := #[102, 102, 102] }, type := 102, pos := "rat.go:96", after := #[{ on := 0, ground := Ground.data }, { on := 3, ground := Ground.data }, { on := 5, ground := Ground.data }, { on := 5, ground := Ground.chain }], guard := none }) rfl (fun K hK => ?_) ?_
  · go_simp
    refine (Mem.mul (A := []) (B := []) m (x := x1) (y := (y2 : Int)) (L := L) (M := M) (by simp) (by simp) (by omega)).mono ?_
    rintro e w1 ⟨rfl, m1⟩
    go_wp2
    exact cmpT_2_0_ h d1 o1 p9 _ m1
  refine AllReady.cons (o := { dst := some 25, op := Op.alloc 67, type := 102, pos := "rat.go:96", after := #[], guard := none }) rfl (fun K hK => ?_) ?_
  · go_simp
    refine hK _ _ ?_
    exact cmpT_1_0_7_ h d1 o1 p9 w.heap.size _ (Mem.alloc (A := [p9]) (B := []) m)
  exact AllReady.nil
set_option maxHeartbeats 1000000 in
theorem cmpT_1_7_ (h : cmpH bx bY s5 s6 s7 s8 s9 s10 x1 y1 x2 y2 L M w0 Q)  (d1 o1 p16 : Nat) (w : World) (m : Mem w0 w [p16] [⟨d1, o1, (y2 : Int), M⟩, ⟨bx, 0, x1, L⟩, ⟨bY, 0, y1, M⟩]) :
    wpAny Tryz.prog .any cmpOps Q 6 #[false, true, true, true, true, true, false, true, true, true, true, true, false, false, false, false] ⟨#[pp bx 0, pp bY 0, undef, undef, .int .i64 0, s5, s6, s7, s8, s9, s10, undef, undef, undef, undef, undef, undef, undef, undef, pp bx 0, pp bx 0, pp bx 0, pp bY 0, pp d1 o1, undef, pp p16 0, pp bY 0, pp bY 0, pp bY 0, pp bx 0, undef, undef, undef], []⟩ w := by
  have hL := h.hL
  unfold pp
  refine wpAny_ready (rs := [0]) (by kernel_rfl) (by simp) ?_
  refine AllReady.cons (o := { dst := some 18, op := Op.alloc 67, type := 102, pos := "rat.go:96", after := #[], guard := none }) rfl (fun K hK => ?_) ?_
  · go_simp
    refine hK _ _ ?_
    exact cmpT_1_0_7_ h d1 o1 w.heap.size p16 _ (Mem.alloc (A := []) (B := [p16]) m)
  exact AllReady.nil
set_option maxHeartbeats 1000000 in
theorem cmpT_1_ (h : cmpH bx bY s5 s6 s7 s8 s9 s10 x1 y1 x2 y2 L M w0 Q)  (d1 o1 : Nat) (w : World) (m : Mem w0 w [] [⟨d1, o1, (y2 : Int), M⟩, ⟨bx, 0, x1, L⟩, ⟨bY, 0, y1, M⟩]) :
    wpAny Tryz.prog .any cmpOps Q 7 #[false, true, true, true, true, true, false, false, true, true, true, true, false, false, false, false] ⟨#[pp bx 0, pp bY 0, undef, undef, .int .i64 0, s5, s6, s7, s8, s9, s10, undef, undef, undef, undef, undef, undef, undef, undef, pp bx 0, pp bx 0, pp bx 0, pp bY 0, pp d1 o1, undef, undef, pp bY 0, pp bY 0, pp bY 0, pp bx 0, undef, undef, undef], []⟩ w := by
  have hL := h.hL
  unfold pp
  refine wpAny_ready (rs := [0, 7]) (by kernel_rfl) (by simp) ?_
  refine AllReady.cons (o := { dst := some 18, op := Op.alloc 67, type := 102, pos := "rat.go:96", after := #[], guard := none }) rfl (fun K hK => ?_) ?_
  · go_simp
    refine hK _ _ ?_
    exact cmpT_1_0_ h d1 o1 w.heap.size _ (Mem.alloc (A := []) (B := []) m)
  refine AllReady.cons (o := { dst := some 25, op := Op.alloc 67, type := 102, pos := "rat.go:96", after := #[], guard := none }) rfl (fun K hK => ?_) ?_
  · go_simp
    refine hK _ _ ?_
    exact cmpT_1_7_ h d1 o1 w.heap.size _ (Mem.alloc (A := []) (B := []) m)
  exact AllReady.nil
set_option maxHeartbeats 1000000 in
theorem cmpT_0_0_7_ (h : cmpH bx bY s5 s6 s7 s8 s9 s10 x1 y1 x2 y2 L M w0 Q)  (p9 p16 : Nat) (w : World) (m : Mem w0 w [p9, p16] [⟨bx, 0, x1, L⟩, ⟨bY, 0, y1, M⟩]) :
    wpAny Tryz.prog .any cmpOps Q 6 #[true, true, true, true, true, false, false, true, true, true, true, true, false, false, false, false] ⟨#[pp bx 0, pp bY 0, undef, undef, .int .i64 0, s5, s6, s7, s8, s9, s10, undef, undef, undef, undef, undef, undef, undef, pp p9 0, pp bx 0, pp bx 0, pp bx 0, pp bY 0, undef, undef, pp p16 0, pp bY 0, pp bY 0, pp bY 0, pp bx 0, undef, undef, undef], []⟩ w := by
  have hL := h.hL
  unfold pp
  refine wpAny_ready (rs := [5]) (by kernel_rfl) (by simp) ?_
  refine AllReady.cons (o := { dst := some 23, op := Op.call { callee := Callee.value (Operand.func 80), args := #[Operand.tmp 22], argTypes := #[34] }, type := 102, pos := "rat.go:96", after := #[{ on := 4, ground := Ground.data }], guard := none }) rfl (fun K hK => ?_) ?_
  · go_simp
    refine (h.dy _ _ _ m).mono ?_
    rintro e w1 ⟨d1, o1, rfl, _, m1⟩
    go_wp2
    exact cmpT_1_0_7_ h d1 o1 p9 p16 _ m1
  exact AllReady.nil
set_option maxHeartbeats 1000000 in
theorem cmpT_0_0_ (h : cmpH bx bY s5 s6 s7 s8 s9 s10 x1 y1 x2 y2 L M w0 Q)  (p9 : Nat) (w : World) (m : Mem w0 w [p9] [⟨bx, 0, x1, L⟩, ⟨bY, 0, y1, M⟩]) :
    wpAny Tryz.prog .any cmpOps Q 7 #[true, true, true, true, true, false, false, false, true, true, true, true, false, false, false, false] ⟨#[pp bx 0, pp bY 0, undef, undef, .int .i64 0, s5, s6, s7, s8, s9, s10, undef, undef, undef, undef, undef, undef, undef, pp p9 0, pp bx 0, pp bx 0, pp bx 0, pp bY 0, undef, undef, undef, pp bY 0, pp bY 0, pp bY 0, pp bx 0, undef, undef, undef], []⟩ w := by
  have hL := h.hL
  unfold pp
  refine wpAny_ready (rs := [5, 7]) (by kernel_rfl) (by simp) ?_
  refine AllReady.cons (o := { dst := some 23, op := Op.call { callee := Callee.value (Operand.func 80), args := #[Operand.tmp 22], argTypes := #[34] }, type := 102, pos := "rat.go:96", after := #[{ on := 4, ground := Ground.data }], guard := none }) rfl (fun K hK => ?_) ?_
  · go_simp
    refine (h.dy _ _ _ m).mono ?_
    rintro e w1 ⟨d1, o1, rfl, _, m1⟩
    go_wp2
    exact cmpT_1_0_ h d1 o1 p9 _ m1
  refine AllReady.cons (o := { dst := some 25, op := Op.alloc 67, type := 102, pos := "rat.go:96", after := #[], guard := none }) rfl (fun K hK => ?_) ?_
  · go_simp
    refine hK _ _ ?_
    exact cmpT_0_0_7_ h p9 w.heap.size _ (Mem.alloc (A := [p9]) (B := []) m)
  exact AllReady.nil
set_option maxHeartbeats 1000000 in
theorem cmpT_0_7_ (h : cmpH bx bY s5 s6 s7 s8 s9 s10 x1 y1 x2 y2 L M w0 Q)  (p16 : Nat) (w : World) (m : Mem w0 w [p16] [⟨bx, 0, x1, L⟩, ⟨bY, 0, y1, M⟩]) :
    wpAny Tryz.prog .any cmpOps Q 7 #[false, true, true, true, true, false, false, true, true, true, true, true, false, false, false, false] ⟨#[pp bx 0, pp bY 0, undef, undef, .int .i64 0, s5, s6, s7, s8, s9, s10, undef, undef, undef, undef, undef, undef, undef, undef, pp bx 0, pp bx 0, pp bx 0, pp bY 0, undef, undef, pp p16 0, pp bY 0, pp bY 0, pp bY 0, pp bx 0, undef, undef, undef], []⟩ w := by
  have hL := h.hL
  unfold pp
  refine wpAny_ready (rs := [0, 5]) (by kernel_rfl) (by simp) ?_
  refine AllReady.cons (o := { dst := some 18, op := Op.alloc 67, type := 102, pos := "rat.go:96", after := #[], guard := none }) rfl (fun K hK => ?_) ?_
  · go_simp
    refine hK _ _ ?_
    exact cmpT_0_0_7_ h w.heap.size p16 _ (Mem.alloc (A := []) (B := [p16]) m)
  refine AllReady.cons (o := { dst := some 23, op := Op.call { callee := Callee.value (Operand.func 80), args := #[Operand.tmp 22], argTypes := #[34] }, type := 102, pos := "rat.go:96", after := #[{ on := 4, ground := Ground.data }], guard := none }) rfl (fun K hK => ?_) ?_
  · go_simp
    refine (h.dy _ _ _ m).mono ?_
    rintro e w1 ⟨d1, o1, rfl, _, m1⟩
    go_wp2
    exact cmpT_1_7_ h d1 o1 p16 _ m1
  exact AllReady.nil
set_option maxHeartbeats 1000000 in
theorem cmpT_0_ (h : cmpH bx bY s5 s6 s7 s8 s9 s10 x1 y1 x2 y2 L M w0 Q)  (w : World) (m : Mem w0 w [] [⟨bx, 0, x1, L⟩, ⟨bY, 0, y1, M⟩]) :
    wpAny Tryz.prog .any cmpOps Q 8 #[false, true, true, true, true, false, false, false, true, true, true, true, false, false, false, false] ⟨#[pp bx 0, pp bY 0, undef, undef, .int .i64 0, s5, s6, s7, s8, s9, s10, undef, undef, undef, undef, undef, undef, undef, undef, pp bx 0, pp bx 0, pp bx 0, pp bY 0, undef, undef, undef, pp bY 0, pp bY 0, pp bY 0, pp bx 0, undef, undef, undef], []⟩ w := by
  have hL := h.hL
  unfold pp
  refine wpAny_ready (rs := [0, 5, 7]) (by kernel_rfl) (by simp) ?_
  refine AllReady.cons (o := { dst := some 18, op := Op.alloc 67, type := 102, pos := "rat.go:96", after := #[], guard := none }) rfl (fun K hK => ?_) ?_
  · go_simp
    refine hK _ _ ?_
    exact cmpT_0_0_ h w.heap.size _ (Mem.alloc (A := []) (B := []) m)
  refine AllReady.cons (o := { dst := some 23, op := Op.call { callee := Callee.value (Operand.func 80), args := #[Operand.tmp 22], argTypes := #[34] }, type := 102, pos := "rat.go:96", after := #[{ on := 4, ground := Ground.data }], guard := none }) rfl (fun K hK => ?_) ?_
  · go_simp
    refine (h.dy _ _ _ m).mono ?_
    rintro e w1 ⟨d1, o1, rfl, _, m1⟩
    go_wp2
    exact cmpT_1_ h d1 o1 _ m1
  refine AllReady.cons (o := { dst := some 25, op := Op.alloc 67, type := 102, pos := "rat.go:96", after := #[], guard := none }) rfl (fun K hK => ?_) ?_
  · go_simp
    refine hK _ _ ?_
    exact cmpT_0_7_ h w.heap.size _ (Mem.alloc (A := []) (B := []) m)
  exact AllReady.nil
end
end Go.Proofs.YtdpagdlmpajjkafGreatDoor
