/- frac: trim, word, isOne, sign, compare. -/
import Derived.Test.YtfhamfgcjdhmdaaDoorProg
import Derived.RowKit
import Derived.Test.YtfhamfgcjdhmdaaDoorPure
import Derived.Laws.AppendOwnNone
import Derived.WalkKit
import Derived.Outline
import Derived.BigQuiet
import Derived.Deep.QuietTactic
import Derived.WalkSpells
namespace Go.Proofs.YtfhamfgcjdhmdaaDoor
open Go.RowKit

def lenOf : Value → Nat
  | .slice _ l _ => l
  | _ => 0

set_option maxHeartbeats 400000 in
theorem ftrim_nil (w : World) : Calls Tryd.prog 49 #[.slice none 0 0] w fun e w' => e = .returned (.slice none 0 0) ∧ w' = w := by
  go_enter Tryd.func49, Tryd.ntmps49
  go_wp2
  refine wp_loop_rounds 1 ?_
  rw [rounds_succ]
  go_wp2
  go_ret
  exact ⟨rfl, rfl⟩

set_option maxHeartbeats 400000 in
theorem ftrim_some (b off cap : Nat) (xs : List Nat) (w : World) (hm : xs.length ≤ cap) (hcap : cap ≤ maxLen)
    (hc : ∀ i (h : i < xs.length), w.cell? ⟨b, off + i, none⟩ = some (.int .u32 (xs[i] : Nat))) :
    Calls Tryd.prog 49 #[.slice (some ⟨b, off, none⟩) xs.length cap] w fun e w' => e = .returned (.slice (some ⟨b, off, none⟩) (trimL xs).length cap) ∧ w' = w := by
  unfold maxLen at hcap
  go_enter Tryd.func49, Tryd.ntmps49
  go_wp2
  go_loop [0] (fun n => ∃ k : Nat, k ≤ xs.length ∧ n = .slice (some ⟨b, off, none⟩) k cap ∧ trimL (xs.take k) = trimL xs) (fun n => lenOf n)
  case atStart => exact ⟨xs.length, Nat.le_refl _, rfl, by simp⟩
  case round =>
    obtain ⟨k, hk, rfl, ht⟩ := hrel
    have HT : Hid (trimL (xs.take k) = trimL xs) := ht
    clear ht
    by_cases h0 : k = 0
    · subst h0
      go_wp2
      go_ret
      refine ⟨?_, rfl⟩
      rw [← HT.out]
      rfl
    · obtain ⟨j, rfl⟩ : ∃ j, k = j + 1 := ⟨k - 1, by omega⟩
      have hj := hc j (by omega)
      have hjl : j < xs.length := by omega
      by_cases hz : xs[j] = 0
      · have HZ : Hid (xs[j] = 0) := hz
        rw [hz] at hj
        clear hz hc
        go_wp2
        go_round
        case rel => exact ⟨j, by omega, by simp, by rw [← HT.out, trimL_take_zero xs j hjl HZ.out]⟩
        case measure => simp [lenOf]
      · have HZ : Hid (xs[j] ≠ 0) := hz
        obtain ⟨x, hx⟩ : ∃ x, x = xs[j] := ⟨_, rfl⟩
        rw [← hx] at hj hz
        have hz' : (((x : Nat) : Int) == 0) = false := beq_eq_false_iff_ne.2 (by omega)
        clear hx hz hc
        go_wp2
        go_ret
        refine ⟨?_, rfl⟩
        rw [← HT.out, trimL_take_pos xs j hjl HZ.out]
        simp
        omega

/-- trim: noughts off the end; the world stands. -/
theorem ftrim_ws (v : Value) (xs : List Nat) (w : World) (h : Ws w v xs) :
    Calls Tryd.prog 49 #[v] w fun e w' => ∃ v', e = .returned v' ∧ w' = w ∧ Ws w v' (trimL xs) ∧ blockOf v' = blockOf v := by
  rcases h.sh with ⟨rfl, rfl⟩ | ⟨b, off, cap, rfl, hb, hl, hm, hc⟩
  · refine (ftrim_nil w).mono ?_
    rintro e w' ⟨rfl, rfl⟩
    exact ⟨_, rfl, rfl, Ws.nil _, rfl⟩
  · refine (ftrim_some b off cap xs w hl hm hc).mono ?_
    rintro e w' ⟨rfl, rfl⟩
    refine ⟨_, rfl, rfl, ⟨h.sm.trimL, .inr ⟨b, off, cap, rfl, hb, Nat.le_trans (trimL_length xs) hl, hm, ?_⟩⟩, rfl⟩
    intro i hi
    have := trimL_length xs
    rw [hc i (by omega), trimL_get xs i hi]

theorem ftrim_num (v : Value) (xs : List Nat) (w : World) (h : Ws w v xs) :
    Calls Tryd.prog 49 #[v] w fun e w' => ∃ v', e = .returned v' ∧ w' = w ∧ Num w v' (val xs) xs.length ∧ blockOf v' = blockOf v := by
  refine (ftrim_ws v xs w h).mono ?_
  rintro e w' ⟨v', rfl, rfl, h1, h2⟩
  exact ⟨v', rfl, rfl, ⟨_, h1, Tr.trimL _, val_trimL _, trimL_length _⟩, h2⟩

set_option maxHeartbeats 400000 in
theorem fword_num (x : Nat) (w : World) (h1 : x < 4294967296) :
    Calls Tryd.prog 46 #[.int .u32 x] w fun e w' => ∃ v', e = .returned v' ∧ Num w' v' x 1 ∧ w.grownBy w' none ∧ Fresh w v' := by
  go_enter Tryd.func46, Tryd.ntmps46
  go_wp2_with fail
  have ha : Arr (w.alloc (Obj.cells #[Value.int IntKind.u32 (x : Int)] 79)) w.heap.size [x] := by
    unfold Arr
    show (w.heap.push _)[w.heap.size]? = _
    rw [Array.getElem?_push_size]
    rfl
  have hw := ha.ws (Sm.cons h1 Sm.nil) (by unfold maxLen; simp)
  clear ha
  refine (ftrim_num _ _ _ hw).mono ?_
  rintro e w1 ⟨v', rfl, rfl, h1, h2⟩
  clear hw
  go_wp2
  go_ret
  refine ⟨v', rfl, ?_, gr_alloc (gr_refl _ _) _, ?_⟩
  · have e : val [x] = x := by simp only [val]; omega
    rw [e] at h1
    exact h1
  · intro k hk
    rw [h2] at hk
    simp [blockOf] at hk
    omega

set_option maxHeartbeats 400000 in
theorem fisOne_ws (va : Value) (xs : List Nat) (w : World) (ha : Ws w va xs) :
    Calls Tryd.prog 58 #[va] w fun e w' => e = .returned (.bool (xs == [1])) ∧ w' = w := by
  obtain ⟨ao, ca, rfl, hca, hca', Ha⟩ := ha.open
  clear ha
  match xs, Ha with
  | [], _ =>
    go_enter Tryd.func58, Tryd.ntmps58
    go_wp2
    go_ret
    exact ⟨rfl, rfl⟩
  | [x], Ha =>
    obtain ⟨b, off, rfl, hb, hc⟩ := Ha 0 (by simp)
    simp only [Nat.add_zero, List.getElem_cons_zero] at hc
    clear Ha
    go_enter Tryd.func58, Tryd.ntmps58
    go_wp2
    go_ret
    refine ⟨?_, rfl⟩
    show Ending.returned (.bool ((x : Int) == 1)) = _
    congr 2
    rw [Bool.eq_iff_iff]
    simp
    omega
  | x :: y :: r, _ =>
    have hb : ((((x :: y :: r).length : Nat) : Int) == 1) = false := beq_eq_false_iff_ne.2 (by simp; omega)
    generalize hn : (x :: y :: r).length = n at hb hca ⊢
    go_enter Tryd.func58, Tryd.ntmps58
    go_wp2
    go_ret
    exact ⟨by simp, rfl⟩

/-- The sign of a difference. -/
def sgn (d : Int) : Int := if d < 0 then -1 else if 0 < d then 1 else 0

set_option maxHeartbeats 400000 in
theorem fsign_at (d : Int) (w : World) :
    Calls Tryd.prog 33 #[.int .i64 d] w fun e w' => e = .returned (.int .i64 (sgn d)) ∧ w' = w := by
  rcases Int.lt_trichotomy d 0 with h | h | h
  · go_enter Tryd.func33, Tryd.ntmps33
    go_wp2
    go_ret
    exact ⟨by simp [sgn, h], rfl⟩
  · subst h
    go_enter Tryd.func33, Tryd.ntmps33
    go_wp2
    go_ret
    exact ⟨by simp [sgn], rfl⟩
  · go_enter Tryd.func33, Tryd.ntmps33
    go_wp2
    go_ret
    exact ⟨by simp [sgn, h]; omega, rfl⟩

set_option maxHeartbeats 1000000 in
theorem fcompare_ws (va vb : Value) (xs ys : List Nat) (w : World) (ha : Ws w va xs) (hb : Ws w vb ys) (tx : Tr xs) (ty : Tr ys) :
    Calls Tryd.prog 43 #[va, vb] w fun e w' => e = .returned (.int .i64 (ord (val xs) (val ys))) ∧ ∃ q, w' = w.drewN q := by
  obtain ⟨ao, ca, rfl, hca, hca', Ha⟩ := ha.open
  obtain ⟨bo, cb, rfl, hcb, hcb', Hb⟩ := hb.open
  unfold maxLen at hca' hcb'
  have HA := hide Ha
  have HB := hide Hb
  have SA := hide ha.sm
  have SB := hide hb.sm
  have TX := hide tx
  have TY := hide ty
  clear Ha Hb ha hb tx ty
  by_cases hl : xs.length = ys.length
  · have hne : (((xs.length : Nat) : Int) != ((ys.length : Nat) : Int)) = false := by rw [bne_eq_false_iff_eq]; omega
    have HL := hide hl
    have hl1 : xs.length ≤ ys.length := by omega
    have hl2 : ys.length ≤ xs.length := by omega
    clear hl
    go_enter Tryd.func43, Tryd.ntmps43
    go_wp2
    go_loopw [5] (fun i wr => ∃ (z : Int) (q : Nat), -1 ≤ z ∧ z < xs.length ∧ i = .int .i64 z ∧ wr = w.drewN q ∧ Hid (xs.drop (z + 1).toNat = ys.drop (z + 1).toNat)) (fun i _ => (intOf i + 1).toNat)
    case atStart => exact ⟨(xs.length : Int) - 1, 0, by omega, by omega, rfl, rfl, by rw [List.drop_of_length_le (by omega), List.drop_of_length_le (by omega)]; rfl⟩
    case round =>
      obtain ⟨z, q, hz1, hz2, rfl, rfl, HD⟩ := hrel
      by_cases h0 : z < 0
      · go_wp2
        go_ret
        refine ⟨?_, q, rfl⟩
        have := HD.out
        rw [show (z + 1).toNat = 0 from by omega] at this
        simp only [List.drop_zero] at this
        rw [this, ord_eq]
        rfl
      · obtain ⟨j, rfl⟩ : ∃ j : Nat, z = j := ⟨z.toNat, by omega⟩
        have hjx : j < xs.length := by omega
        have hjy : j < ys.length := by omega
        obtain ⟨b, off, rfl, hbl, hcell⟩ := unhide HA j hjx
        obtain ⟨b2, off2, rfl, hbl2, hcell2⟩ := unhide HB j hjy
        obtain ⟨x, ex⟩ : ∃ x, x = xs[j] := ⟨_, rfl⟩
        obtain ⟨y, ey⟩ : ∃ y, y = ys[j] := ⟨_, rfl⟩
        rw [← ex] at hcell
        rw [← ey] at hcell2
        have EX := hide ex
        have EY := hide ey
        clear ex ey
        have HD' := HD.out
        rw [show ((j : Int) + 1).toNat = j + 1 from by omega] at HD'
        have HE := hide HD'
        clear HD' HD
        rcases Nat.lt_trichotomy x y with hxy | hxy | hxy
        · go_wp2
          go_quiet (fail)
          go_wp2
          go_ret
          refine ⟨?_, _, by simp only [World.drewN_drewN]; rfl⟩
          rw [ord_lt (val_lt_of_top xs ys j hjx hjy SA.out HE.out (by rw [← EX.out, ← EY.out]; exact hxy))]
          rfl
        · have HXY := hide hxy
          have hxy1 : x ≤ y := by omega
          have hxy2 : y ≤ x := by omega
          clear hxy
          go_wp2
          go_quiet (fail)
          go_wp2
          go_quiet (fail)
          go_wp2
          go_roundw
          case rel => exact ⟨(j : Int) - 1, _, by omega, by omega, by go_num, by first | rfl | (simp only [World.drewN_drewN]; rfl), by
            rw [show ((j : Int) - 1 + 1).toNat = j from by omega, List.drop_eq_getElem_cons hjx, List.drop_eq_getElem_cons hjy, HE.out, ← EX.out, ← EY.out, HXY.out]; rfl⟩
          case measure => simp [intOf]
        · have hb2 : ¬ ((x : Nat) : Int) < ((y : Nat) : Int) := by omega
          go_wp2
          go_quiet (fail)
          go_wp2
          go_quiet (fail)
          go_wp2
          go_ret
          refine ⟨?_, _, by simp only [World.drewN_drewN]; rfl⟩
          rw [ord_gt (val_lt_of_top ys xs j hjy hjx SB.out HE.out.symm (by rw [← EX.out, ← EY.out]; exact hxy))]
          rfl
  · have hne : (((xs.length : Nat) : Int) != ((ys.length : Nat) : Int)) = true := by rw [bne_iff_ne]; omega
    have E : Hid (sgn ((xs.length : Int) - (ys.length : Int)) = ord (val xs) (val ys)) := by
      rcases Nat.lt_or_ge xs.length ys.length with h | h
      · show _ = _
        rw [ord_lt (val_lt_of_length SA.out TY.out h)]
        unfold sgn
        rw [if_pos (by omega)]
      · show _ = _
        rw [ord_gt (val_lt_of_length SB.out TX.out (by omega))]
        unfold sgn
        rw [if_neg (by omega), if_pos (by omega)]
    clear hl
    go_enter Tryd.func43, Tryd.ntmps43
    go_wp2_with fail
    refine (fsign_at _ _).mono ?_
    rintro e w1 ⟨rfl, rfl⟩
    have E2 := E.out
    generalize sgn ((xs.length : Int) - (ys.length : Int)) = s at E2 ⊢
    have E3 := hide E2
    clear E E2
    go_wp2
    go_ret
    exact ⟨by rw [E3.out]; rfl, 0, rfl⟩

theorem fcompare_num (va vb : Value) (m n L M : Nat) (w : World) (ha : Num w va m L) (hb : Num w vb n M) :
    Calls Tryd.prog 43 #[va, vb] w fun e w' => e = .returned (.int .i64 (ord m n)) ∧ ∃ q, w' = w.drewN q := by
  obtain ⟨xs, x1, x2, x3, x4⟩ := ha
  obtain ⟨ys, y1, y2, y3, y4⟩ := hb
  rw [← x3, ← y3]
  exact fcompare_ws va vb xs ys w x1 y1 x2 y2
end Go.Proofs.YtfhamfgcjdhmdaaDoor
