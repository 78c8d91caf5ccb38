/- voltaicbig: Rat.Sub, Rat.Add (written by gen/gensub2.py). -/
import Derived.Test.YtklkpkkjakllfaaGreatDoorXBh
set_option linter.unusedVariables false
set_option linter.unusedSimpArgs false
set_option maxHeartbeats 4000000
namespace Go.Proofs.YtklkpkkjakllfaaGreatDoor
open Go.RowKit
theorem ratSub_at (bz bx bY : Nat) (n1 n2 : Bool) (v1 v2 : Value) (x1 y1 : Int) (x2 y2 L M : Nat) (w : World) (hz1 : Box w bz 0 n1 v1) (hz2 : Box w bz 2 n2 v2) (hX : IntAt w bx 0 x1 L) (hY : IntAt w bY 0 y1 M) (dx : DenC w bx x2 L) (dy : DenC w bY y2 M) (hx2 : 0 < x2) (hy2 : 0 < y2) (hL : L + M ≤ 3900000000000) :
    Calls Tryz.prog 61 #[.pointer (some ⟨bz, 0, none⟩), .pointer (some ⟨bx, 0, none⟩), .pointer (some ⟨bY, 0, none⟩)] w fun e w' => e = .returned (.pointer (some ⟨bz, 0, none⟩)) ∧ RPut w w' bz ∧ RatAt w' bz (low1 (x1 * (y2 : Int) - y1 * (x2 : Int)) (x2 * y2)) (low2 (x1 * (y2 : Int) - y1 * (x2 : Int)) (x2 * y2)) (L + M + 3) := by
  have HX := hide hX
  have HY := hide hY
  have DX := hide dx
  have DY := hide dy
  have Z1 := hide hz1
  have Z2 := hide hz2
  replace hL : L + M ≤ 4000000000000 - 100000000000 := hL
  have hL' := hL
  clear hX hY dx dy hz1 hz2
  replace hL : L + M ≤ 4000000000000 := by omega
  go_enter Tryz.func61, Tryz.ntmps61
  go_upto_region 1 with fail
  go_cut [7] (fun s7 wx => Hid (∃ p8, s7 = .pointer (some ⟨p8, 0, none⟩) ∧ Mem w wx [] [⟨p8, 0, x1 * (y2 : Int) - y1 * (x2 : Int), max (L + M) (M + L) + 1⟩]))
  case first =>
    refine wp_region_any (by kernel_rfl) ?_
    change wpAny _ _ _ _ _ _ _ (World.drew _)
    refine wpAny_take (i := 2) (v := .pointer (some ⟨bx, 0, none⟩)) rfl (by kernel_rfl) (by kernel_rfl) (by kernel_rfl) (fun _ _ _ h => h) (Or.inl ⟨by rfl, ?ty2⟩) ?tr2
    case ty2 => (intro w; go_simp <;> rfl)
    case tr2 =>
      refine wpAny_take (i := 3) (v := .pointer (some ⟨bx, 0, none⟩)) rfl (by kernel_rfl) (by kernel_rfl) (by kernel_rfl) (fun _ _ _ h => h) (Or.inl ⟨by rfl, ?ty3⟩) ?tr3
      case ty3 => (intro w; go_simp <;> rfl)
      case tr3 =>
        refine wpAny_take (i := 4) (v := .pointer (some ⟨bx, 0, none⟩)) rfl (by kernel_rfl) (by kernel_rfl) (by kernel_rfl) (fun _ _ _ h => h) (Or.inl ⟨by rfl, ?ty4⟩) ?tr4
        case ty4 => (intro w; go_simp <;> rfl)
        case tr4 =>
          refine wpAny_take (i := 5) (v := .pointer (some ⟨bY, 0, none⟩)) rfl (by kernel_rfl) (by kernel_rfl) (by kernel_rfl) (fun _ _ _ h => h) (Or.inl ⟨by rfl, ?ty5⟩) ?tr5
          case ty5 => (intro w; go_simp <;> rfl)
          case tr5 =>
            refine wpAny_take (i := 9) (v := .pointer (some ⟨bY, 0, none⟩)) rfl (by kernel_rfl) (by kernel_rfl) (by kernel_rfl) (fun _ _ _ h => h) (Or.inl ⟨by rfl, ?ty9⟩) ?tr9
            case ty9 => (intro w; go_simp <;> rfl)
            case tr9 =>
              refine wpAny_take (i := 10) (v := .pointer (some ⟨bY, 0, none⟩)) rfl (by kernel_rfl) (by kernel_rfl) (by kernel_rfl) (fun _ _ _ h => h) (Or.inl ⟨by rfl, ?ty10⟩) ?tr10
              case ty10 => (intro w; go_simp <;> rfl)
              case tr10 =>
                refine wpAny_take (i := 11) (v := .pointer (some ⟨bY, 0, none⟩)) rfl (by kernel_rfl) (by kernel_rfl) (by kernel_rfl) (fun _ _ _ h => h) (Or.inl ⟨by rfl, ?ty11⟩) ?tr11
                case ty11 => (intro w; go_simp <;> rfl)
                case tr11 =>
                  refine wpAny_take (i := 12) (v := .pointer (some ⟨bx, 0, none⟩)) rfl (by kernel_rfl) (by kernel_rfl) (by kernel_rfl) (fun _ _ _ h => h) (Or.inl ⟨by rfl, ?ty12⟩) ?tr12
                  case ty12 => (intro w; go_simp <;> rfl)
                  case tr12 =>
                    exact subT_0_ ⟨DX.out, DY.out, hL, fun d1 o1 d2 o2 p8 p9 p16 w1 m1 => by unfold pp; go_wp2; go_meet; case rel => exact hide ⟨p8, rfl, m1.drop (by simp)⟩⟩ _ (((Mem.start (gr_drew (gr_refl w none))).old HY.out).old HX.out)
  case rest =>
    rename_i s7 wc
    obtain ⟨p8, rfl, m⟩ := hcut.out
    have M0 := hide m
    clear m
    go_wp2_with fail
    refine (DX.out _ _ _ (Mem.alloc (A := []) (B := []) M0.out)).mono ?_
    rintro e w1 ⟨d1, o1, rfl, _, m1⟩
    have M1 := hide m1
    clear m1
    go_wp2_with fail
    refine (DY.out _ _ _ M1.out).mono ?_
    rintro e w2 ⟨d2, o2, rfl, _, m2⟩
    have M2 := hide m2
    clear m2
    go_wp2_with fail
    refine (Mem.mul (A := []) (B := []) M2.out (x := (x2 : Int)) (y := (y2 : Int)) (L := L) (M := M) (by simp) (by simp) (by omega)).mono ?_
    rintro e w3 ⟨rfl, m3⟩
    have M3 := hide m3
    clear m3
    go_wp2_with fail
    refine (setFrac_pos bz p8 0 _ 0 n1 n2 v1 v2 (x1 * (y2 : Int) - y1 * (x2 : Int)) (x2 * y2) (L + M + 1) _ (Z1.out.keep0 M3.out.gr) (Z2.out.keep0 M3.out.gr) ((M3.out.away (L := max (L + M) (M + L) + 1) (by simp)).mono (by omega)) ((by rw [Int.natCast_mul]; exact M3.out.away (L := L + M) (by simp) : IntAt w3 wc.heap.size 0 ((x2 * y2 : Nat) : Int) (L + M)).mono (by omega)) (Nat.mul_pos hx2 hy2) (by omega)).mono ?_
    rintro e w4 ⟨rfl, r1, r2⟩
    have R1 := hide r1
    have R2 := hide r2
    clear r1 r2
    go_wp2
    go_ret
    exact ⟨rfl, (RPut.of_gr M3.out.gr).trans R1.out, R2.out⟩
theorem ratAdd_at (bz bx bY : Nat) (n1 n2 : Bool) (v1 v2 : Value) (x1 y1 : Int) (x2 y2 L M : Nat) (w : World) (hz1 : Box w bz 0 n1 v1) (hz2 : Box w bz 2 n2 v2) (hX : IntAt w bx 0 x1 L) (hY : IntAt w bY 0 y1 M) (dx : DenC w bx x2 L) (dy : DenC w bY y2 M) (hx2 : 0 < x2) (hy2 : 0 < y2) (hL : L + M ≤ 3900000000000) :
    Calls Tryz.prog 59 #[.pointer (some ⟨bz, 0, none⟩), .pointer (some ⟨bx, 0, none⟩), .pointer (some ⟨bY, 0, none⟩)] w fun e w' => e = .returned (.pointer (some ⟨bz, 0, none⟩)) ∧ RPut w w' bz ∧ RatAt w' bz (low1 (x1 * (y2 : Int) + y1 * (x2 : Int)) (x2 * y2)) (low2 (x1 * (y2 : Int) + y1 * (x2 : Int)) (x2 * y2)) (L + M + 3) := by
  have HX := hide hX
  have HY := hide hY
  have DX := hide dx
  have DY := hide dy
  have Z1 := hide hz1
  have Z2 := hide hz2
  replace hL : L + M ≤ 4000000000000 - 100000000000 := hL
  have hL' := hL
  clear hX hY dx dy hz1 hz2
  replace hL : L + M ≤ 4000000000000 := by omega
  go_enter Tryz.func59, Tryz.ntmps59
  go_upto_region 1 with fail
  go_cut [7] (fun s7 wx => Hid (∃ p8, s7 = .pointer (some ⟨p8, 0, none⟩) ∧ Mem w wx [] [⟨p8, 0, x1 * (y2 : Int) + y1 * (x2 : Int), max (L + M) (M + L) + 1⟩]))
  case first =>
    refine wp_region_any (by kernel_rfl) ?_
    change wpAny _ _ _ _ _ _ _ (World.drew _)
    refine wpAny_take (i := 2) (v := .pointer (some ⟨bx, 0, none⟩)) rfl (by kernel_rfl) (by kernel_rfl) (by kernel_rfl) (fun _ _ _ h => h) (Or.inl ⟨by rfl, ?ty2⟩) ?tr2
    case ty2 => (intro w; go_simp <;> rfl)
    case tr2 =>
      refine wpAny_take (i := 3) (v := .pointer (some ⟨bx, 0, none⟩)) rfl (by kernel_rfl) (by kernel_rfl) (by kernel_rfl) (fun _ _ _ h => h) (Or.inl ⟨by rfl, ?ty3⟩) ?tr3
      case ty3 => (intro w; go_simp <;> rfl)
      case tr3 =>
        refine wpAny_take (i := 4) (v := .pointer (some ⟨bx, 0, none⟩)) rfl (by kernel_rfl) (by kernel_rfl) (by kernel_rfl) (fun _ _ _ h => h) (Or.inl ⟨by rfl, ?ty4⟩) ?tr4
        case ty4 => (intro w; go_simp <;> rfl)
        case tr4 =>
          refine wpAny_take (i := 5) (v := .pointer (some ⟨bY, 0, none⟩)) rfl (by kernel_rfl) (by kernel_rfl) (by kernel_rfl) (fun _ _ _ h => h) (Or.inl ⟨by rfl, ?ty5⟩) ?tr5
          case ty5 => (intro w; go_simp <;> rfl)
          case tr5 =>
            refine wpAny_take (i := 9) (v := .pointer (some ⟨bY, 0, none⟩)) rfl (by kernel_rfl) (by kernel_rfl) (by kernel_rfl) (fun _ _ _ h => h) (Or.inl ⟨by rfl, ?ty9⟩) ?tr9
            case ty9 => (intro w; go_simp <;> rfl)
            case tr9 =>
              refine wpAny_take (i := 10) (v := .pointer (some ⟨bY, 0, none⟩)) rfl (by kernel_rfl) (by kernel_rfl) (by kernel_rfl) (fun _ _ _ h => h) (Or.inl ⟨by rfl, ?ty10⟩) ?tr10
              case ty10 => (intro w; go_simp <;> rfl)
              case tr10 =>
                refine wpAny_take (i := 11) (v := .pointer (some ⟨bY, 0, none⟩)) rfl (by kernel_rfl) (by kernel_rfl) (by kernel_rfl) (fun _ _ _ h => h) (Or.inl ⟨by rfl, ?ty11⟩) ?tr11
                case ty11 => (intro w; go_simp <;> rfl)
                case tr11 =>
                  refine wpAny_take (i := 12) (v := .pointer (some ⟨bx, 0, none⟩)) rfl (by kernel_rfl) (by kernel_rfl) (by kernel_rfl) (fun _ _ _ h => h) (Or.inl ⟨by rfl, ?ty12⟩) ?tr12
                  case ty12 => (intro w; go_simp <;> rfl)
                  case tr12 =>
                    exact addT_0_ ⟨DX.out, DY.out, hL, fun d1 o1 d2 o2 p8 p9 p16 w1 m1 => by unfold pp; go_wp2; go_meet; case rel => exact hide ⟨p8, rfl, m1.drop (by simp)⟩⟩ _ (((Mem.start (gr_drew (gr_refl w none))).old HY.out).old HX.out)
  case rest =>
    rename_i s7 wc
    obtain ⟨p8, rfl, m⟩ := hcut.out
    have M0 := hide m
    clear m
    go_wp2_with fail
    refine (DX.out _ _ _ (Mem.alloc (A := []) (B := []) M0.out)).mono ?_
    rintro e w1 ⟨d1, o1, rfl, _, m1⟩
    have M1 := hide m1
    clear m1
    go_wp2_with fail
    refine (DY.out _ _ _ M1.out).mono ?_
    rintro e w2 ⟨d2, o2, rfl, _, m2⟩
    have M2 := hide m2
    clear m2
    go_wp2_with fail
    refine (Mem.mul (A := []) (B := []) M2.out (x := (x2 : Int)) (y := (y2 : Int)) (L := L) (M := M) (by simp) (by simp) (by omega)).mono ?_
    rintro e w3 ⟨rfl, m3⟩
    have M3 := hide m3
    clear m3
    go_wp2_with fail
    refine (setFrac_pos bz p8 0 _ 0 n1 n2 v1 v2 (x1 * (y2 : Int) + y1 * (x2 : Int)) (x2 * y2) (L + M + 1) _ (Z1.out.keep0 M3.out.gr) (Z2.out.keep0 M3.out.gr) ((M3.out.away (L := max (L + M) (M + L) + 1) (by simp)).mono (by omega)) ((by rw [Int.natCast_mul]; exact M3.out.away (L := L + M) (by simp) : IntAt w3 wc.heap.size 0 ((x2 * y2 : Nat) : Int) (L + M)).mono (by omega)) (Nat.mul_pos hx2 hy2) (by omega)).mono ?_
    rintro e w4 ⟨rfl, r1, r2⟩
    have R1 := hide r1
    have R2 := hide r2
    clear r1 r2
    go_wp2
    go_ret
    exact ⟨rfl, (RPut.of_gr M3.out.gr).trans R1.out, R2.out⟩
end Go.Proofs.YtklkpkkjakllfaaGreatDoor
