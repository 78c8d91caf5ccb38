/- net: join. -/
import Derived.Test.YtfhamfgcjdhmdaaDoorNRow
namespace Go.Proofs.YtfhamfgcjdhmdaaDoor
open Go.RowKit
set_option linter.unusedVariables false

def JoR (w : World) (g n : Nat) (l : Nat → Nat) (hi lo : Nat) (v : Value) (wr : World) : Prop := ∃ k : Nat, k ≤ n ∧ v = .int .i64 k ∧ IArr wr g (labs n fun x => if x < k then (if l x = hi then lo else l x) else l x) ∧ w.grownBy wr (some g)

set_option maxHeartbeats 2000000 in
set_option maxRecDepth 10000 in
theorem join_at (g n cap : Nat) (l : Nat → Nat) (a b : Nat) (w : World) (hn : n ≤ 8) (ha : a < n) (hb : b < n) (h : IArr w g (labs n l)) (hl : ∀ x, x < n → l x ≤ 8) (hc1 : n ≤ cap) (hc2 : cap ≤ maxLen) :
    Calls Tryd.prog 16 #[.slice (some ⟨g, 0, none⟩) n cap, .int .i64 (a : Nat), .int .i64 (b : Nat)] w fun e w' => e = .returned (.tuple #[]) ∧ IArr w' g (labs n (joinF l (a, b))) ∧ w.grownBy w' (some g) := by
  unfold maxLen at hc2
  have ca := h.cell a (by rw [labs_length]; exact ha)
  have cb := h.cell b (by rw [labs_length]; exact hb)
  rw [labs_get] at ca cb
  have la := hl a ha
  have lb := hl b hb
  obtain ⟨x, hx⟩ : ∃ x, x = l a := ⟨_, rfl⟩
  obtain ⟨y, hy⟩ : ∃ y, y = l b := ⟨_, rfl⟩
  rw [← hx] at ca la
  rw [← hy] at cb lb
  have H := hide h
  have HX := hide hx
  have HY := hide hy
  have HL := hide hl
  have hmin : min (x : Int) (y : Int) = ((min x y : Nat) : Int) := by omega
  have hmax : max (x : Int) (y : Int) = ((max x y : Nat) : Int) := by omega
  obtain ⟨lo, hlo⟩ : ∃ lo, lo = min x y := ⟨_, rfl⟩
  obtain ⟨hi, hhi⟩ : ∃ hi, hi = max x y := ⟨_, rfl⟩
  rw [← hlo] at hmin
  rw [← hhi] at hmax
  have HLO := hide hlo
  have HHI := hide hhi
  clear h hx hy hl hlo hhi
  go_enter Tryd.func16, Tryd.ntmps16
  go_wp2
  go_quiet (fail)
  go_wp2
  clear hmin hmax ca cb
  go_loopw [30] (fun v wr => Hid (JoR w g n l hi lo v wr)) (fun v _ => n - (intOf v).toNat)
  case atStart =>
    refine ⟨0, by omega, rfl, ?_, gr_drewN (gr_refl _ _) _⟩
    exact H.out
  case round =>
    obtain ⟨k, hk, rfl, h1, h2⟩ := hrel.out
    by_cases hlt : k < n
    · have hfr := h1.free k
      have hco := h1.cell k (by rw [labs_length]; exact hlt)
      rw [labs_get, if_neg (Nat.lt_irrefl k)] at hco
      have hlk := HL.out k hlt
      obtain ⟨q, hq⟩ : ∃ q, q = l k := ⟨_, rfl⟩
      rw [← hq] at hco hlk
      have HQ := hide hq
      have H1 := hide h1
      have H2 := hide h2
      clear h1 h2 hrel hq
      by_cases he : q = hi
      · have he' : ((q : Int) == (hi : Int)) = true := by simp [he]
        have HE := hide he
        clear he
        go_wp2
        go_roundw
        case rel =>
          refine ⟨k + 1, by omega, by go_num, ?_, gr_row H2.out g k _ rfl⟩
          have := H1.out.set k ((lo : Nat) : Int) (.int .i64 (lo : Nat)) rfl
          rw [labs_set n _ k lo hlt] at this
          rw [labs_congr n (fun x => if x < k + 1 then (if l x = hi then lo else l x) else l x) (fun x => if x = k then lo else if x < k then (if l x = hi then lo else l x) else l x)]
          · exact this
          · intro x hx
            by_cases e : x = k
            · subst e
              rw [if_pos (by omega), if_pos (by rw [← HQ.out]; exact HE.out), if_pos rfl]
            · by_cases e2 : x < k
              · rw [if_pos (by omega), if_neg e, if_pos e2]
              · rw [if_neg (by omega), if_neg e, if_neg e2]
        case measure => simp [intOf]; omega
      · have he' : ((q : Int) == (hi : Int)) = false := by simp; omega
        have HE := hide he
        clear he
        go_wp2
        go_roundw
        case rel =>
          refine ⟨k + 1, by omega, by go_num, ?_, H2.out⟩
          rw [labs_congr n (fun x => if x < k + 1 then (if l x = hi then lo else l x) else l x) (fun x => if x < k then (if l x = hi then lo else l x) else l x)]
          · exact H1.out
          · intro x hx
            by_cases e : x = k
            · subst e
              rw [if_pos (by omega), if_neg (by rw [← HQ.out]; exact HE.out), if_neg (by omega)]
            · by_cases e2 : x < k
              · rw [if_pos (by omega), if_pos e2]
              · rw [if_neg (by omega), if_neg e2]
        case measure => simp [intOf]; omega
    · obtain rfl : k = n := by omega
      have H1 := hide h1
      have H2 := hide h2
      clear h1 h2 hrel
      go_wp2
      go_end0
      refine ⟨rfl, ?_, H2.out⟩
      rw [labs_congr k (joinF l (a, b)) (fun x => if x < k then (if l x = hi then lo else l x) else l x)]
      · exact H1.out
      · intro x hx
        rw [if_pos hx]
        unfold joinF
        rw [HHI.out, HLO.out, HX.out, HY.out]

/-- Labels that were joined. -/
theorem join_lab (g n cap : Nat) (E : List Pr) (a b : Nat) (w : World) (hn : n ≤ 8) (ha : a < n) (hb : b < n) (h : IArr w g (labs n (labF E))) (hc1 : n ≤ cap) (hc2 : cap ≤ maxLen) :
    Calls Tryd.prog 16 #[.slice (some ⟨g, 0, none⟩) n cap, .int .i64 (a : Nat), .int .i64 (b : Nat)] w fun e w' => e = .returned (.tuple #[]) ∧ IArr w' g (labs n (labF (E ++ [(a, b)]))) ∧ w.grownBy w' (some g) := by
  rw [labF_snoc]
  exact join_at g n cap (labF E) a b w hn ha hb h (fun x hx => by have := lab_le E x; omega) hc1 hc2
end Go.Proofs.YtfhamfgcjdhmdaaDoor
