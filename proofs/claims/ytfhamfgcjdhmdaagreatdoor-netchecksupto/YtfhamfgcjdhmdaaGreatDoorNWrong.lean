/- net: what is wrong with a part. -/
import Derived.Test.YtfhamfgcjdhmdaaGreatDoorNSign
namespace Go.Proofs.YtfhamfgcjdhmdaaGreatDoor
open Go.RowKit
set_option linter.unusedVariables false

theorem ne_beq {c : Int} (h : c ≠ 0) : (c != 0) = true := by simpa using h
theorem bool_of {c : Int} (h : c = 0) : (c != 0) = false := by simp [h]

set_option maxHeartbeats 2000000 in
set_option maxRecDepth 10000 in
theorem wrong_led (k : Nat) (a b c d : Int) (v : ByteArray) (nodes : Int) (w : World) (h1 : 1 ≤ k) (h2 : k < 9) (hk : KindsAt w) (hA : isN a nodes = true) (hB : isN b nodes = true) (hC : isN c nodes = true) (hD : isN d nodes = true) (hl : kLed k = true) (hv : kValued k = true) (ha : kAbove k = false) :
    Calls Tryz.prog 82 #[.agg #[.int .i64 (k : Nat), .int .i64 a, .int .i64 b, .int .i64 c, .int .i64 d, .string v], .int .i64 nodes] w fun e w' => e = .returned (.int .i64 (0)) ∧ w.grownBy w' none := by
  obtain ⟨hk0, hk1⟩ := hk
  obtain ⟨s, u, c0, c1, c2, c3, c4⟩ := hk1 k h1 (by omega)
  clear hk1
  rw [hl] at c4
  rw [hv] at c2
  rw [ha] at c3
  clear hl hv ha
  go_enter Tryz.func82, Tryz.ntmps82
  go_wp2_with (first | (go_at_call_of 156 (Value.int .i64 a); refine (isNode_at a nodes _ _ (by go_simp)).mono ?_; rintro e w1 ⟨rfl, rfl⟩; rw [hA]) | (go_at_call_of 156 (Value.int .i64 b); refine (isNode_at b nodes _ _ (by go_simp)).mono ?_; rintro e w1 ⟨rfl, rfl⟩; rw [hB]) | (go_at_call_of 156 (Value.int .i64 c); refine (isNode_at c nodes _ _ (by go_simp)).mono ?_; rintro e w1 ⟨rfl, rfl⟩; rw [hC]) | (go_at_call_of 156 (Value.int .i64 d); refine (isNode_at d nodes _ _ (by go_simp)).mono ?_; rintro e w1 ⟨rfl, rfl⟩; rw [hD]))
  go_ret
  exact ⟨rfl, gr_alloc (gr_alloc (gr_alloc (gr_refl _ _) _) _) _⟩

set_option maxHeartbeats 2000000 in
set_option maxRecDepth 10000 in
theorem wrong_plain (k : Nat) (a b c d : Int) (v : ByteArray) (nodes : Int) (w : World) (h1 : 1 ≤ k) (h2 : k < 9) (hk : KindsAt w) (hA : isN a nodes = true) (hB : isN b nodes = true) (hl : kLed k = false) (hv : kValued k = true) (ha : kAbove k = false) :
    Calls Tryz.prog 82 #[.agg #[.int .i64 (k : Nat), .int .i64 a, .int .i64 b, .int .i64 c, .int .i64 d, .string v], .int .i64 nodes] w fun e w' => e = .returned (.int .i64 (if c = 0 ∧ d = 0 then 0 else 6)) ∧ w.grownBy w' none := by
  obtain ⟨hk0, hk1⟩ := hk
  obtain ⟨s, u, c0, c1, c2, c3, c4⟩ := hk1 k h1 (by omega)
  clear hk1
  rw [hl] at c4
  rw [hv] at c2
  rw [ha] at c3
  clear hl hv ha
  by_cases hc : c = 0
  · by_cases hd : d = 0
    · rw [if_pos ⟨hc, hd⟩]
      subst hc hd
      go_enter Tryz.func82, Tryz.ntmps82
      go_wp2_with (first | (go_at_call_of 156 (Value.int .i64 a); refine (isNode_at a nodes _ _ (by go_simp)).mono ?_; rintro e w1 ⟨rfl, rfl⟩; rw [hA]) | (go_at_call_of 156 (Value.int .i64 b); refine (isNode_at b nodes _ _ (by go_simp)).mono ?_; rintro e w1 ⟨rfl, rfl⟩; rw [hB]))
      go_ret
      exact ⟨rfl, gr_alloc (gr_alloc (gr_alloc (gr_refl _ _) _) _) _⟩
    · rw [if_neg (fun e => hd e.2)]
      have hd' := ne_beq hd
      subst hc
      go_enter Tryz.func82, Tryz.ntmps82
      go_wp2_with (first | (go_at_call_of 156 (Value.int .i64 a); refine (isNode_at a nodes _ _ (by go_simp)).mono ?_; rintro e w1 ⟨rfl, rfl⟩; rw [hA]) | (go_at_call_of 156 (Value.int .i64 b); refine (isNode_at b nodes _ _ (by go_simp)).mono ?_; rintro e w1 ⟨rfl, rfl⟩; rw [hB]))
      go_ret
      exact ⟨rfl, gr_alloc (gr_alloc (gr_alloc (gr_refl _ _) _) _) _⟩
  · rw [if_neg (fun e => hc e.1)]
    have hc' := ne_beq hc
    go_enter Tryz.func82, Tryz.ntmps82
    go_wp2_with (first | (go_at_call_of 156 (Value.int .i64 a); refine (isNode_at a nodes _ _ (by go_simp)).mono ?_; rintro e w1 ⟨rfl, rfl⟩; rw [hA]) | (go_at_call_of 156 (Value.int .i64 b); refine (isNode_at b nodes _ _ (by go_simp)).mono ?_; rintro e w1 ⟨rfl, rfl⟩; rw [hB]))
    go_ret
    exact ⟨rfl, gr_alloc (gr_alloc (gr_alloc (gr_refl _ _) _) _) _⟩

set_option maxHeartbeats 2000000 in
set_option maxRecDepth 10000 in
theorem wrong_diode (k : Nat) (a b c d : Int) (v : ByteArray) (nodes : Int) (w : World) (h1 : 1 ≤ k) (h2 : k < 9) (hk : KindsAt w) (hA : isN a nodes = true) (hB : isN b nodes = true) (hl : kLed k = false) (hv : kValued k = false) (ha : kAbove k = false) :
    Calls Tryz.prog 82 #[.agg #[.int .i64 (k : Nat), .int .i64 a, .int .i64 b, .int .i64 c, .int .i64 d, .string v], .int .i64 nodes] w fun e w' => e = .returned (.int .i64 (if c = 0 ∧ d = 0 ∧ v.data.toList = [] then 0 else 6)) ∧ w.grownBy w' none := by
  obtain ⟨hk0, hk1⟩ := hk
  obtain ⟨s, u, c0, c1, c2, c3, c4⟩ := hk1 k h1 (by omega)
  clear hk1
  rw [hl] at c4
  rw [hv] at c2
  rw [ha] at c3
  clear hl hv ha
  by_cases hc : c = 0
  · by_cases hd : d = 0
    · by_cases he : v.data.toList = []
      · rw [if_pos ⟨hc, hd, he⟩]
        subst hc hd
        have he' : v.toList = [] := by rw [ByteArray.toList_eq]; exact he
        clear he
        go_enter Tryz.func82, Tryz.ntmps82
        go_wp2_with (first | (go_at_call_of 156 (Value.int .i64 a); refine (isNode_at a nodes _ _ (by go_simp)).mono ?_; rintro e w1 ⟨rfl, rfl⟩; rw [hA]) | (go_at_call_of 156 (Value.int .i64 b); refine (isNode_at b nodes _ _ (by go_simp)).mono ?_; rintro e w1 ⟨rfl, rfl⟩; rw [hB]))
        go_ret
        exact ⟨rfl, gr_alloc (gr_alloc (gr_alloc (gr_refl _ _) _) _) _⟩
      · rw [if_neg (fun e => he e.2.2)]
        subst hc hd
        have he' : v.toList.isEmpty = false := by
          rw [ByteArray.toList_eq]
          cases hl : v.data.toList with
          | nil => exact absurd hl he
          | cons x y => rfl
        clear he
        go_enter Tryz.func82, Tryz.ntmps82
        go_wp2_with (first | (go_at_call_of 156 (Value.int .i64 a); refine (isNode_at a nodes _ _ (by go_simp)).mono ?_; rintro e w1 ⟨rfl, rfl⟩; rw [hA]) | (go_at_call_of 156 (Value.int .i64 b); refine (isNode_at b nodes _ _ (by go_simp)).mono ?_; rintro e w1 ⟨rfl, rfl⟩; rw [hB]))
        go_ret
        exact ⟨rfl, gr_alloc (gr_alloc (gr_alloc (gr_refl _ _) _) _) _⟩
    · rw [if_neg (fun e => hd e.2.1)]
      have hd' := ne_beq hd
      subst hc
      go_enter Tryz.func82, Tryz.ntmps82
      go_wp2_with (first | (go_at_call_of 156 (Value.int .i64 a); refine (isNode_at a nodes _ _ (by go_simp)).mono ?_; rintro e w1 ⟨rfl, rfl⟩; rw [hA]) | (go_at_call_of 156 (Value.int .i64 b); refine (isNode_at b nodes _ _ (by go_simp)).mono ?_; rintro e w1 ⟨rfl, rfl⟩; rw [hB]))
      go_ret
      exact ⟨rfl, gr_alloc (gr_alloc (gr_alloc (gr_refl _ _) _) _) _⟩
  · rw [if_neg (fun e => hc e.1)]
    have hc' := ne_beq hc
    go_enter Tryz.func82, Tryz.ntmps82
    go_wp2_with (first | (go_at_call_of 156 (Value.int .i64 a); refine (isNode_at a nodes _ _ (by go_simp)).mono ?_; rintro e w1 ⟨rfl, rfl⟩; rw [hA]) | (go_at_call_of 156 (Value.int .i64 b); refine (isNode_at b nodes _ _ (by go_simp)).mono ?_; rintro e w1 ⟨rfl, rfl⟩; rw [hB]))
    go_ret
    exact ⟨rfl, gr_alloc (gr_alloc (gr_alloc (gr_refl _ _) _) _) _⟩

set_option maxHeartbeats 2000000 in
set_option maxRecDepth 10000 in
theorem wrong_above (k : Nat) (a b c d : Int) (v : ByteArray) (nodes : Int) (w : World) (h1 : 1 ≤ k) (h2 : k < 9) (hk : KindsAt w) (hA : isN a nodes = true) (hB : isN b nodes = true) (m : Int) (hml : w.cell? ⟨5, 0, none⟩ = some (.int .i64 m)) (hm1 : 5 < w.heap.size) (hz : v.size ≤ 600000000) (hl : kLed k = false) (hv : kValued k = true) (ha : kAbove k = true) :
    Calls Tryz.prog 82 #[.agg #[.int .i64 (k : Nat), .int .i64 a, .int .i64 b, .int .i64 c, .int .i64 d, .string v], .int .i64 nodes] w fun e w' => e = .returned (.int .i64 (if signV v ≤ 0 then 5 else if c = 0 ∧ d = 0 then 0 else 6)) ∧ w.grownBy w' none := by
  obtain ⟨hk0, hk1⟩ := hk
  obtain ⟨s, u, c0, c1, c2, c3, c4⟩ := hk1 k h1 (by omega)
  clear hk1
  rw [hl] at c4
  rw [hv] at c2
  rw [ha] at c3
  obtain ⟨sv, hsv⟩ : ∃ z, z = signV v := ⟨_, rfl⟩
  rw [← hsv]
  have HSV := hide hsv
  clear hl hv ha hsv
  by_cases hs : sv ≤ 0
  · rw [if_pos hs]
    go_enter Tryz.func82, Tryz.ntmps82
    go_wp2_with (first | (go_at_call_of 156 (Value.int .i64 a); refine (isNode_at a nodes _ _ (by go_simp)).mono ?_; rintro e w1 ⟨rfl, rfl⟩; rw [hA]) | (go_at_call_of 156 (Value.int .i64 b); refine (isNode_at b nodes _ _ (by go_simp)).mono ?_; rintro e w1 ⟨rfl, rfl⟩; rw [hB]) | (go_at_call 42; refine (of_at v m _ (by omega) (by refine World.grownBy.cell (w := w) (row := none) ?_ hml (by simp); repeat (first | exact gr_refl _ _ | refine gr_alloc ?_ _ | refine gr_drewN ?_ _))).mono ?_; intro e w2 hOf; obtain ⟨fv, rfl, f1, f2⟩ := hOf; have F1 := hide f1; have F2 := hide f2; clear f1 f2) | (go_at_call 58; refine (sign_at _ _ _ _ _ _ F1.out).mono ?_; rintro e w3 ⟨rfl, s2⟩; have S2 := hide (gr_none F2.out s2); have q1 := S2.out.cell (a := ⟨w.heap.size, 3, none⟩) (v := .int .i64 c) (by go_simp) (by simp); have q2 := S2.out.cell (a := ⟨w.heap.size, 4, none⟩) (v := .int .i64 d) (by go_simp) (by simp); have q3 := S2.out.cell (a := ⟨w.heap.size + 1 + 1, 4, none⟩) (v := .bool false) (by go_simp) (by simp); have q4 := S2.out.cell (a := ⟨w.heap.size + 1 + 1, 2, none⟩) (v := .bool true) (by go_simp) (by simp); rw [show signQ (ofQ v.data.toList).1 (ofQ v.data.toList).2.1 = sv from HSV.out.symm]; clear s2))
    go_ret
    exact ⟨rfl, gr_none (gr_alloc (gr_alloc (gr_alloc (gr_refl _ _) _) _) _) S2.out⟩
  · rw [if_neg hs]
    by_cases hc : c = 0
    · by_cases hd : d = 0
      · rw [if_pos ⟨hc, hd⟩]
        subst hc hd
        go_enter Tryz.func82, Tryz.ntmps82
        go_wp2_with (first | (go_at_call_of 156 (Value.int .i64 a); refine (isNode_at a nodes _ _ (by go_simp)).mono ?_; rintro e w1 ⟨rfl, rfl⟩; rw [hA]) | (go_at_call_of 156 (Value.int .i64 b); refine (isNode_at b nodes _ _ (by go_simp)).mono ?_; rintro e w1 ⟨rfl, rfl⟩; rw [hB]) | (go_at_call 42; refine (of_at v m _ (by omega) (by refine World.grownBy.cell (w := w) (row := none) ?_ hml (by simp); repeat (first | exact gr_refl _ _ | refine gr_alloc ?_ _ | refine gr_drewN ?_ _))).mono ?_; intro e w2 hOf; obtain ⟨fv, rfl, f1, f2⟩ := hOf; have F1 := hide f1; have F2 := hide f2; clear f1 f2) | (go_at_call 58; refine (sign_at _ _ _ _ _ _ F1.out).mono ?_; rintro e w3 ⟨rfl, s2⟩; have S2 := hide (gr_none F2.out s2); have q1 := S2.out.cell (a := ⟨w.heap.size, 3, none⟩) (v := .int .i64 0) (by go_simp) (by simp); have q2 := S2.out.cell (a := ⟨w.heap.size, 4, none⟩) (v := .int .i64 0) (by go_simp) (by simp); have q3 := S2.out.cell (a := ⟨w.heap.size + 1 + 1, 4, none⟩) (v := .bool false) (by go_simp) (by simp); have q4 := S2.out.cell (a := ⟨w.heap.size + 1 + 1, 2, none⟩) (v := .bool true) (by go_simp) (by simp); rw [show signQ (ofQ v.data.toList).1 (ofQ v.data.toList).2.1 = sv from HSV.out.symm]; clear s2))
        go_ret
        exact ⟨rfl, gr_none (gr_alloc (gr_alloc (gr_alloc (gr_refl _ _) _) _) _) S2.out⟩
      · rw [if_neg (fun e => hd e.2)]
        have hd' := ne_beq hd
        subst hc
        go_enter Tryz.func82, Tryz.ntmps82
        go_wp2_with (first | (go_at_call_of 156 (Value.int .i64 a); refine (isNode_at a nodes _ _ (by go_simp)).mono ?_; rintro e w1 ⟨rfl, rfl⟩; rw [hA]) | (go_at_call_of 156 (Value.int .i64 b); refine (isNode_at b nodes _ _ (by go_simp)).mono ?_; rintro e w1 ⟨rfl, rfl⟩; rw [hB]) | (go_at_call 42; refine (of_at v m _ (by omega) (by refine World.grownBy.cell (w := w) (row := none) ?_ hml (by simp); repeat (first | exact gr_refl _ _ | refine gr_alloc ?_ _ | refine gr_drewN ?_ _))).mono ?_; intro e w2 hOf; obtain ⟨fv, rfl, f1, f2⟩ := hOf; have F1 := hide f1; have F2 := hide f2; clear f1 f2) | (go_at_call 58; refine (sign_at _ _ _ _ _ _ F1.out).mono ?_; rintro e w3 ⟨rfl, s2⟩; have S2 := hide (gr_none F2.out s2); have q1 := S2.out.cell (a := ⟨w.heap.size, 3, none⟩) (v := .int .i64 0) (by go_simp) (by simp); have q2 := S2.out.cell (a := ⟨w.heap.size, 4, none⟩) (v := .int .i64 d) (by go_simp) (by simp); have q3 := S2.out.cell (a := ⟨w.heap.size + 1 + 1, 4, none⟩) (v := .bool false) (by go_simp) (by simp); have q4 := S2.out.cell (a := ⟨w.heap.size + 1 + 1, 2, none⟩) (v := .bool true) (by go_simp) (by simp); rw [show signQ (ofQ v.data.toList).1 (ofQ v.data.toList).2.1 = sv from HSV.out.symm]; clear s2))
        go_ret
        exact ⟨rfl, gr_none (gr_alloc (gr_alloc (gr_alloc (gr_refl _ _) _) _) _) S2.out⟩
    · rw [if_neg (fun e => hc e.1)]
      have hc' := ne_beq hc
      go_enter Tryz.func82, Tryz.ntmps82
      go_wp2_with (first | (go_at_call_of 156 (Value.int .i64 a); refine (isNode_at a nodes _ _ (by go_simp)).mono ?_; rintro e w1 ⟨rfl, rfl⟩; rw [hA]) | (go_at_call_of 156 (Value.int .i64 b); refine (isNode_at b nodes _ _ (by go_simp)).mono ?_; rintro e w1 ⟨rfl, rfl⟩; rw [hB]) | (go_at_call 42; refine (of_at v m _ (by omega) (by refine World.grownBy.cell (w := w) (row := none) ?_ hml (by simp); repeat (first | exact gr_refl _ _ | refine gr_alloc ?_ _ | refine gr_drewN ?_ _))).mono ?_; intro e w2 hOf; obtain ⟨fv, rfl, f1, f2⟩ := hOf; have F1 := hide f1; have F2 := hide f2; clear f1 f2) | (go_at_call 58; refine (sign_at _ _ _ _ _ _ F1.out).mono ?_; rintro e w3 ⟨rfl, s2⟩; have S2 := hide (gr_none F2.out s2); have q1 := S2.out.cell (a := ⟨w.heap.size, 3, none⟩) (v := .int .i64 c) (by go_simp) (by simp); have q2 := S2.out.cell (a := ⟨w.heap.size, 4, none⟩) (v := .int .i64 d) (by go_simp) (by simp); have q3 := S2.out.cell (a := ⟨w.heap.size + 1 + 1, 4, none⟩) (v := .bool false) (by go_simp) (by simp); have q4 := S2.out.cell (a := ⟨w.heap.size + 1 + 1, 2, none⟩) (v := .bool true) (by go_simp) (by simp); rw [show signQ (ofQ v.data.toList).1 (ofQ v.data.toList).2.1 = sv from HSV.out.symm]; clear s2))
      go_ret
      exact ⟨rfl, gr_none (gr_alloc (gr_alloc (gr_alloc (gr_refl _ _) _) _) _) S2.out⟩
end Go.Proofs.YtfhamfgcjdhmdaaGreatDoor
