/- net: Check. -/
import Derived.Test.YtfhamfgcjdhmdaaDoorNWrong
namespace Go.Proofs.YtfhamfgcjdhmdaaDoor
open Go.RowKit
set_option linter.unusedVariables false

/-- What is wrong with a part. -/
def wrongP (p : Prt) (nodes : Int) : Int := if p.kind < 1 ∨ 9 ≤ p.kind then 3 else wrongK p.kind.toNat p.a p.b p.c p.d p.v nodes

/-- What the program's variables hold. -/
def Base (w : World) : Prop := KindsAt w ∧ (∃ m : Int, w.cell? ⟨1, 0, none⟩ = some (.int .i64 m)) ∧ 1 < w.heap.size

theorem Base.keep {w w' : World} (h : Base w) (hg : w.grownBy w' none) : Base w' := by
  obtain ⟨h1, ⟨m, h2⟩, h3⟩ := h
  exact ⟨h1.keep hg, ⟨m, hg.cell h2 (by simp)⟩, Nat.lt_of_lt_of_le h3 hg.size⟩

set_option maxHeartbeats 1000000 in
theorem wrong_kind (z : Int) (a b c d : Int) (v : ByteArray) (nodes : Int) (w : World) (h : z < 1 ∨ 9 ≤ z) :
    Calls Tryd.prog 24 #[.agg #[.int .i64 z, .int .i64 a, .int .i64 b, .int .i64 c, .int .i64 d, .string v], .int .i64 nodes] w fun e w' => e = .returned (.int .i64 3) ∧ w.grownBy w' none := by
  by_cases h1 : z < 1
  · clear h
    go_enter Tryd.func24, Tryd.ntmps24
    go_wp2
    go_ret
    exact ⟨rfl, gr_alloc (gr_alloc (gr_refl _ _) _) _⟩
  · have h2 : 9 ≤ z := by omega
    clear h
    go_enter Tryd.func24, Tryd.ntmps24
    go_wp2
    go_ret
    exact ⟨rfl, gr_alloc (gr_alloc (gr_refl _ _) _) _⟩

theorem calls_ret {P : Program} {f : Nat} {args : Array Value} {w : World} {x y : Int} {R : World → Prop} (h : Calls P f args w fun e w' => e = .returned (.int .i64 x) ∧ R w') (e : x = y) : Calls P f args w fun e w' => e = .returned (.int .i64 y) ∧ R w' := by
  rw [← e]; exact h

theorem wrong_at (p : Prt) (nodes : Int) (w : World) (hb : Base w) (hz : p.v.size ≤ 600000000) :
    Calls Tryd.prog 24 #[p.val, .int .i64 nodes] w fun e w' => e = .returned (.int .i64 (wrongP p nodes)) ∧ w.grownBy w' none := by
  obtain ⟨kind, a, b, c, d, v⟩ := p
  unfold Prt.val wrongP
  by_cases h : kind < 1 ∨ 9 ≤ kind
  · simp only
    rw [if_pos h]
    exact wrong_kind kind a b c d v nodes w h
  · simp only
    rw [if_neg h]
    obtain ⟨k, rfl⟩ : ∃ k : Nat, kind = k := ⟨kind.toNat, by omega⟩
    rw [Int.toNat_natCast]
    have h1 : 1 ≤ k := by omega
    have h2 : k < 9 := by omega
    obtain ⟨hk, ⟨m, hml⟩, hm1⟩ := hb
    by_cases hn : (!(isN a nodes) || !(isN b nodes) || (kLed k && !(isN c nodes && isN d nodes))) = true
    · refine calls_ret (wrong_nodes k a b c d v nodes w h1 h2 hk hn) ?_
      unfold wrongK
      rw [if_pos hn]
    · have hA : isN a nodes = true := by
        cases h : isN a nodes with
        | true => rfl
        | false => rw [h] at hn; simp at hn
      have hB : isN b nodes = true := by
        cases h : isN b nodes with
        | true => rfl
        | false => rw [h] at hn; simp at hn
      have hcd : (c != 0 || d != 0) = !(decide (c = 0 ∧ d = 0)) := by
        by_cases hc : c = 0 <;> by_cases hd : d = 0 <;> simp [hc, hd]
      have hK : k = 1 ∨ k = 2 ∨ k = 3 ∨ k = 4 ∨ k = 5 ∨ k = 6 ∨ k = 7 ∨ k = 8 := by omega
      by_cases hl : kLed k = true
      · rw [hA, hB, hl] at hn
        have hC : isN c nodes = true := by
          cases h : isN c nodes with
          | true => rfl
          | false => rw [h] at hn; simp at hn
        have hD : isN d nodes = true := by
          cases h : isN d nodes with
          | true => rfl
          | false => rw [h] at hn; simp at hn
        have hv : kValued k = true := by rcases hK with rfl | rfl | rfl | rfl | rfl | rfl | rfl | rfl <;> first | rfl | (simp [kLed] at hl)
        have ha : kAbove k = false := by rcases hK with rfl | rfl | rfl | rfl | rfl | rfl | rfl | rfl <;> first | rfl | (simp [kLed] at hl)
        refine calls_ret (wrong_led k a b c d v nodes w h1 h2 hk hA hB hC hD hl hv ha) ?_
        unfold wrongK
        simp [hA, hB, hC, hD, hl, hv, ha]
      · have hl : kLed k = false := by simpa using hl
        by_cases hv : kValued k = true
        · by_cases ha : kAbove k = true
          · refine calls_ret (wrong_above k a b c d v nodes w h1 h2 hk hA hB m hml hm1 hz hl hv ha) ?_
            unfold wrongK
            simp only [hA, hB, hl, hv, ha, hcd]
            by_cases h3 : signV v ≤ 0 <;> by_cases h4 : c = 0 ∧ d = 0 <;> simp [h3, h4]
          · have ha : kAbove k = false := by simpa using ha
            refine calls_ret (wrong_plain k a b c d v nodes w h1 h2 hk hA hB hl hv ha) ?_
            unfold wrongK
            simp only [hA, hB, hl, hv, ha, hcd]
            by_cases h4 : c = 0 ∧ d = 0 <;> simp [h4]
        · have hv : kValued k = false := by simpa using hv
          have ha : kAbove k = false := by rcases hK with rfl | rfl | rfl | rfl | rfl | rfl | rfl | rfl <;> first | rfl | (simp [kValued] at hv)
          refine calls_ret (wrong_diode k a b c d v nodes w h1 h2 hk hA hB hl hv ha) ?_
          unfold wrongK
          simp only [hA, hB, hl, hv, ha, hcd]
          by_cases h4 : c = 0 ∧ d = 0
          · by_cases h5 : v.data.toList = []
            · simp [h4, h5]
            · have h6 : v.data.toList.isEmpty = false := by
                cases hq : v.data.toList with
                | nil => exact absurd hq h5
                | cons x y => rfl
              simp [h4, h5, h6]
          · rw [if_neg (fun e => h4 ⟨e.1, e.2.1⟩)]
            simp [h4]

set_option maxHeartbeats 400000 in
theorem told_at (p : Prt) (nodes : Int) (g : Nat) (w : World) (hb : Base w) (hz : p.v.size ≤ 600000000) (hg : g < w.heap.size) (hc : w.cell? ⟨g, 0, none⟩ = some (.int .i64 nodes)) :
    Calls Tryd.prog 23 #[p.val, .pointer (some ⟨g, 0, none⟩)] w fun e w' => e = .returned (.int .i64 (wrongP p nodes)) ∧ w.grownBy w' none := by
  have HB := hide (hb.keep (World.grownBy_alloc w (Obj.cells #[.int .i64 p.kind, .int .i64 p.a, .int .i64 p.b, .int .i64 p.c, .int .i64 p.d, .string p.v] 37) none))
  have hW := wrong_at p nodes _ HB.out hz
  have HW := hide hW
  unfold Prt.val at HW
  clear hb hW
  unfold Prt.val
  generalize wrongP p nodes = r at HW ⊢
  go_enter Tryd.func23, Tryd.ntmps23
  go_wp2_with fail
  refine HW.out.mono ?_
  rintro e w1 ⟨rfl, g1⟩
  have G1 := hide g1
  clear g1
  go_wp2
  go_ret
  exact ⟨rfl, gr_none (gr_alloc (gr_refl _ _) _) G1.out⟩
end Go.Proofs.YtfhamfgcjdhmdaaDoor
