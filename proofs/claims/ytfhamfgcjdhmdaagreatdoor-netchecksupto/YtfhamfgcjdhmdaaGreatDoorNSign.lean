/- frac: Sign; net: what is wrong with a part. -/
import Derived.Test.YtfhamfgcjdhmdaaGreatDoorMFc
namespace Go.Proofs.YtfhamfgcjdhmdaaGreatDoor
open Go.RowKit
set_option linter.unusedVariables false

/-- -1, 0, 1. -/
def signQ (neg : Bool) (n : Nat) : Int := if neg then -1 else if n = 0 then 0 else 1

set_option maxHeartbeats 400000 in
theorem sign_at (v : Value) (neg : Bool) (n d L : Nat) (w : World) (h : FV w v neg n d L) :
    Calls Tryz.prog 58 #[v] w fun e w' => e = .returned (.int .i64 (signQ neg n)) ∧ w.grownBy w' none := by
  obtain ⟨up, down, rfl, h1, h2, h3, h4⟩ := h
  obtain ⟨uo, ul, uc, rfl, u1, _, _⟩ := h1.shape
  obtain ⟨do_, dl, dc, rfl⟩ : ∃ o l c, down = .slice o l c := by
    rcases h2 with ⟨rfl, _⟩ | ⟨h2, _⟩
    · exact ⟨_, _, _, rfl⟩
    · obtain ⟨o, l, c, rfl, _⟩ := h2.shape
      exact ⟨_, _, _, rfl⟩
  have U1 := hide u1
  clear u1 h1 h2 h3 h4
  cases neg with
  | true =>
    go_enter Tryz.func58, Tryz.ntmps58
    go_wp2
    go_ret
    exact ⟨rfl, gr_alloc (gr_refl _ _) _⟩
  | false =>
    go_enter Tryz.func58, Tryz.ntmps58
    go_wp2_with fail
    refine (fsign_at _ _).mono ?_
    rintro e w1 ⟨rfl, rfl⟩
    go_wp2
    go_ret
    refine ⟨?_, gr_alloc (gr_refl _ _) _⟩
    have : sgn (ul : Int) = signQ false n := by
      unfold sgn signQ
      have := U1.out
      by_cases h : ul = 0
      · rw [if_neg (by omega), if_neg (by omega), if_neg (by simp), if_pos (this.1 h)]
      · rw [if_neg (by omega), if_pos (by omega), if_neg (by simp), if_neg (fun e => h (this.2 e))]
    rw [← this]
    rfl

/-- A part of a net. -/
structure Prt where
  kind : Int
  a : Int
  b : Int
  c : Int
  d : Int
  v : ByteArray

/-- A part as a value. -/
def Prt.val (p : Prt) : Value := .agg #[.int .i64 p.kind, .int .i64 p.a, .int .i64 p.b, .int .i64 p.c, .int .i64 p.d, .string p.v]

/-- What kinds have: a value; one above 0; nodes C and D. -/
def kValued (k : Nat) : Bool := k != 8
def kAbove (k : Nat) : Bool := k == 1 || k == 2 || k == 3
def kLed (k : Nat) : Bool := k == 6 || k == 7

/-- The table of the kinds, as the program's text lays it. -/
def KindsAt (w : World) : Prop := 4 < w.heap.size ∧ ∀ k : Nat, 1 ≤ k → k ≤ 8 → ∃ s u : ByteArray, w.cell? ⟨4, k * 5, none⟩ = some (.string s) ∧ w.cell? ⟨4, k * 5 + 1, none⟩ = some (.string u) ∧
  w.cell? ⟨4, k * 5 + 2, none⟩ = some (.bool (kValued k)) ∧ w.cell? ⟨4, k * 5 + 3, none⟩ = some (.bool (kAbove k)) ∧ w.cell? ⟨4, k * 5 + 4, none⟩ = some (.bool (kLed k))

theorem KindsAt.keep {w w' : World} (h : KindsAt w) (hg : w.grownBy w' none) : KindsAt w' := by
  refine ⟨Nat.lt_of_lt_of_le h.1 hg.size, fun k h1 h2 => ?_⟩
  obtain ⟨s, u, a, b, c, d, e⟩ := h.2 k h1 h2
  exact ⟨s, u, hg.cell a (by simp), hg.cell b (by simp), hg.cell c (by simp), hg.cell d (by simp), hg.cell e (by simp)⟩

/-- Is it a node? -/
def isN (x nodes : Int) : Bool := decide (0 ≤ x) && decide (x < nodes)

set_option maxHeartbeats 400000 in
theorem isNode_at (x nodes : Int) (g : Nat) (w : World) (hc : w.cell? ⟨g, 0, none⟩ = some (.int .i64 nodes)) :
    Calls Tryz.prog 156 #[.int .i64 x, .pointer (some ⟨g, 0, none⟩)] w fun e w' => e = .returned (.bool (isN x nodes)) ∧ w' = w := by
  by_cases h : 0 ≤ x
  · go_enter Tryz.func156, Tryz.ntmps156
    go_wp2
    go_ret
    refine ⟨?_, rfl⟩
    unfold isN
    simp [h]
  · go_enter Tryz.func156, Tryz.ntmps156
    go_wp2
    go_ret
    refine ⟨?_, rfl⟩
    unfold isN
    rw [show decide (0 ≤ x) = false from by simpa using h]
    rfl

/-- The sign of what a text counts as. -/
def signV (v : ByteArray) : Int := signQ (ofQ v.data.toList).1 (ofQ v.data.toList).2.1

/-- What is wrong with a part of one of the kinds. -/
def wrongK (k : Nat) (a b c d : Int) (v : ByteArray) (nodes : Int) : Int :=
  if !(isN a nodes) || !(isN b nodes) || (kLed k && !(isN c nodes && isN d nodes)) then 4
  else if kAbove k && decide (signV v ≤ 0) then 5
  else if (!kLed k && (c != 0 || d != 0)) || (!kValued k && !v.data.toList.isEmpty) then 6 else 0

set_option maxHeartbeats 2000000 in
set_option maxRecDepth 10000 in
theorem wrong_nodes (k : Nat) (a b c d : Int) (v : ByteArray) (nodes : Int) (w : World) (h1 : 1 ≤ k) (h2 : k < 9) (hk : KindsAt w) (hn : (!(isN a nodes) || !(isN b nodes) || (kLed k && !(isN c nodes && isN d nodes))) = true) :
    Calls Tryz.prog 82 #[.agg #[.int .i64 (k : Nat), .int .i64 a, .int .i64 b, .int .i64 c, .int .i64 d, .string v], .int .i64 nodes] w fun e w' => e = .returned (.int .i64 4) ∧ w.grownBy w' none := by
  obtain ⟨hk0, hk1⟩ := hk
  obtain ⟨s, u, c0, c1, c2, c3, c4⟩ := hk1 k h1 (by omega)
  generalize kValued k = valued at c2
  generalize kAbove k = above at c3
  generalize kLed k = led at c4 hn
  clear hk1
  cases hA : isN a nodes with
  | false =>
    clear hn
    go_enter Tryz.func82, Tryz.ntmps82
    go_wp2_with (go_at_call_of 156 (Value.int .i64 a); refine (isNode_at a nodes _ _ (by go_simp)).mono ?_; rintro e w1 ⟨rfl, rfl⟩; rw [hA])
    go_ret
    exact ⟨rfl, gr_alloc (gr_alloc (gr_alloc (gr_refl _ _) _) _) _⟩
  | true =>
    cases hB : isN b nodes with
    | false =>
      clear hn
      go_enter Tryz.func82, Tryz.ntmps82
      go_wp2_with (first | (go_at_call_of 156 (Value.int .i64 a); refine (isNode_at a nodes _ _ (by go_simp)).mono ?_; rintro e w1 ⟨rfl, rfl⟩; rw [hA]) | (go_at_call_of 156 (Value.int .i64 b); refine (isNode_at b nodes _ _ (by go_simp)).mono ?_; rintro e w1 ⟨rfl, rfl⟩; rw [hB]))
      go_ret
      exact ⟨rfl, gr_alloc (gr_alloc (gr_alloc (gr_refl _ _) _) _) _⟩
    | true =>
      rw [hA, hB] at hn
      simp only [Bool.not_true, Bool.false_or, Bool.and_eq_true] at hn
      obtain ⟨rfl, hn2⟩ := hn
      cases hC : isN c nodes with
      | false =>
        clear hn2
        go_enter Tryz.func82, Tryz.ntmps82
        go_wp2_with (first | (go_at_call_of 156 (Value.int .i64 a); refine (isNode_at a nodes _ _ (by go_simp)).mono ?_; rintro e w1 ⟨rfl, rfl⟩; rw [hA]) | (go_at_call_of 156 (Value.int .i64 b); refine (isNode_at b nodes _ _ (by go_simp)).mono ?_; rintro e w1 ⟨rfl, rfl⟩; rw [hB]) | (go_at_call_of 156 (Value.int .i64 c); refine (isNode_at c nodes _ _ (by go_simp)).mono ?_; rintro e w1 ⟨rfl, rfl⟩; rw [hC]))
        go_ret
        exact ⟨rfl, gr_alloc (gr_alloc (gr_alloc (gr_refl _ _) _) _) _⟩
      | true =>
        rw [hC] at hn2
        have hD : isN d nodes = false := by simpa using hn2
        clear hn2
        go_enter Tryz.func82, Tryz.ntmps82
        go_wp2_with (first | (go_at_call_of 156 (Value.int .i64 a); refine (isNode_at a nodes _ _ (by go_simp)).mono ?_; rintro e w1 ⟨rfl, rfl⟩; rw [hA]) | (go_at_call_of 156 (Value.int .i64 b); refine (isNode_at b nodes _ _ (by go_simp)).mono ?_; rintro e w1 ⟨rfl, rfl⟩; rw [hB]) | (go_at_call_of 156 (Value.int .i64 c); refine (isNode_at c nodes _ _ (by go_simp)).mono ?_; rintro e w1 ⟨rfl, rfl⟩; rw [hC]) | (go_at_call_of 156 (Value.int .i64 d); refine (isNode_at d nodes _ _ (by go_simp)).mono ?_; rintro e w1 ⟨rfl, rfl⟩; rw [hD]))
        go_ret
        exact ⟨rfl, gr_alloc (gr_alloc (gr_alloc (gr_refl _ _) _) _) _⟩
end Go.Proofs.YtfhamfgcjdhmdaaGreatDoor
