/- gates: leads, decided. -/
import Derived.Test.YtidnhafllbckcaaGCount
namespace Go.Proofs.Ytidnhafllbckcaa
open Go.RowKit
set_option linter.unusedVariables false
set_option linter.unusedSimpArgs false

/-- Of several together, where one that is as c decides for all. -/
def decF (c : Int) : List Int → Int → Int
  | [], out => out
  | v :: r, out => if v = c then c else decF c r (if v = 2 then 2 else out)

/-- A switch's own value. -/
def swV (x : List Int) (i : Int) (b : Bool) : Int := if b = true ∧ x.getD i.toNat 0 ≠ 2 then 1 - x.getD i.toNat 0 else x.getD i.toNat 0

/-- Whether it leads. -/
def leadsE (x : List Int) : (n : Nat) → Ex n → Int
  | 0, _ => 0
  | n + 1, t => if t.1 = 2 then decF 0 (t.2.2.2.map (leadsE x n)) 1 else if t.1 = 3 then decF 1 (t.2.2.2.map (leadsE x n)) 0 else swV x t.2.1 t.2.2.1

/-- Each node is right. -/
def FineE (k : Int) : (n : Nat) → Ex n → Prop
  | 0, _ => False
  | n + 1, t => wrongW k t.1 t.2.1 t.2.2.1 t.2.2.2.length = 0 ∧ ∀ u ∈ t.2.2.2, FineE k n u

theorem cntL_all {α : Type} (f : α → Nat → Nat × Int) : ∀ (l : List α) (a : Nat), (cntL f l a).2 = 0 → ∀ u ∈ l, ∃ m, (f u m).2 = 0
  | [], _, _, u, hu => by cases hu
  | t :: r, a, h, u, hu => by
    unfold cntL at h
    split at h
    · rename_i h0
      rcases List.mem_cons.1 hu with rfl | hu
      · exact ⟨a, h0⟩
      · exact cntL_all f r _ h u hu
    · rename_i h0
      exact absurd h h0

theorem fine_of (k : Int) : ∀ (n : Nat) (t : Ex n) (a : Nat), (countE k n t a).2 = 0 → FineE k n t
  | 0, t, _, _ => t.elim
  | n + 1, t, a, h => by
    unfold countE at h
    split at h
    · rename_i hw
      refine ⟨hw, fun u hu => ?_⟩
      split at h
      · simp at h
      · obtain ⟨m, hm⟩ := cntL_all _ _ _ h u hu
        exact fine_of k n u m hm
    · rename_i hw
      exact absurd h hw

theorem wrong_zero {k kd i : Int} {b : Bool} {len : Nat} (h : wrongW k kd i b len = 0) : (kd = 1 ∧ len = 0 ∧ 0 ≤ i ∧ i < k) ∨ ((kd = 2 ∨ kd = 3) ∧ 0 < len ∧ i = 0 ∧ b = false) := by
  unfold wrongW at h
  split at h
  · rename_i h1
    split at h
    · simp at h
    · split at h
      · simp at h
      · exact .inl ⟨h1, by omega, by omega, by omega⟩
  · split at h
    · rename_i h2
      split at h
      · simp at h
      · rename_i h3
        refine .inr ⟨h2, ?_, ?_, ?_⟩
        · have : len ≠ 0 := fun e => h3 (.inl e)
          omega
        · exact Classical.byContradiction fun e => h3 (.inr (.inl e))
        · cases b with
          | true => exact absurd (.inr (.inr rfl)) h3
          | false => rfl
    · simp at h

/-- Inputs that are 0, 1 or 2. -/
def Small (xs : List Int) : Prop := ∀ v ∈ xs, v = 0 ∨ v = 1 ∨ v = 2

/-- What leads says of one level. -/
def LeadsAt (xs : List Int) (n : Nat) : Prop := ∀ (t : Ex n) (c0 c1 c2 c3 xv : Value) (w : World), WayC w n c0 c1 c2 c3 t → IntR w xv xs → FineE xs.length n t →
    Calls Try.prog 18 #[.agg #[c0, c1, c2, c3], xv] w fun e w' => e = .returned (.int .i64 (leadsE xs n t)) ∧ w.grownBy w' none

def DecR (w : World) (xs : List Int) (n : Nat) (l : List (Ex n)) (c R : Int) (ov iv : Value) (wr : World) : Prop :=
  ∃ (i : Nat) (o : Int), i ≤ l.length ∧ iv = .int .i64 (i : Nat) ∧ ov = .int .i64 o ∧ decF c ((l.drop i).map (leadsE xs n)) o = R ∧ w.grownBy wr none

set_option maxHeartbeats 4000000 in
set_option maxRecDepth 10000 in
theorem decided_at (xs : List Int) (n : Nat) (hn : LeadsAt xs n) (l : List (Ex n)) (ao : Option Addr) (cap : Nat) (xv : Value) (c : Int) (w : World) (hl : WayR w n ao l) (h1 : l.length ≤ cap) (h2 : cap ≤ maxLen) (hx : IntR w xv xs) (hf : ∀ u ∈ l, FineE xs.length n u) (hc : 0 ≤ c) (hc2 : c ≤ 1) :
    Calls Try.prog 24 #[.slice ao l.length cap, xv, .int .i64 c] w fun e w' => e = .returned (.int .i64 (decF c (l.map (leadsE xs n)) (1 - c))) ∧ w.grownBy w' none := by
  have HN := hide hn
  have HL := hide hl
  have HX := hide hx
  have HF := hide hf
  obtain ⟨xo, xc, rfl, _, _, _⟩ := hx
  obtain ⟨R, hR⟩ : ∃ R, R = decF c (l.map (leadsE xs n)) (1 - c) := ⟨_, rfl⟩
  rw [← hR]
  have HR := hide hR
  unfold maxLen at h2
  clear hn hl hf hR
  go_enter Try.func24, Try.ntmps24
  go_wp2_with fail
  refine (opposite_at c w hc (by omega)).mono ?_
  rintro e w1 ⟨rfl, rfl⟩
  go_wp2_with fail
  go_loopw [7, 14] (fun ov iv wr => Hid (DecR w1 xs n l c R ov iv wr)) (fun _ iv _ => l.length - (intOf iv).toNat)
  case atStart => exact ⟨0, 1 - c, by omega, rfl, rfl, by rw [HR.out]; rfl, gr_refl _ _⟩
  case round =>
    obtain ⟨j, o, hj, rfl, rfl, hD, hgr⟩ := hrel.out
    have HD := hide hD
    have HGR := hide hgr
    clear hD hgr hrel
    by_cases hlt : j < l.length
    · obtain ⟨bb, off, rfl, hb, d0, d1, d2, d3, k0, k1, k2, k3, hk⟩ := HL.out j hlt
      have q0 := gr_cell HGR.out k0
      have q1 := gr_cell HGR.out k1
      have q2 := gr_cell HGR.out k2
      have q3 := gr_cell HGR.out k3
      have HDR := hide (List.drop_eq_getElem_cons hlt)
      have HK := hide hk
      obtain ⟨kd2, i2, b2, ao2, len2, cap2, rfl, rfl, rfl, rfl⟩ := hk.cells
      clear k0 k1 k2 k3 hk
      go_wp2_with fail
      refine (HN.out (l[j]) _ _ _ _ _ _ (HK.out.keep (gr_alloc HGR.out _)) (HX.out.keep (gr_alloc HGR.out _)) (HF.out _ (List.getElem_mem hlt))).mono ?_
      rintro e w2 ⟨rfl, g2⟩
      have G2 := hide (gr_none (gr_alloc HGR.out _) g2)
      obtain ⟨v, hv⟩ : ∃ v, v = leadsE xs n (l[j]) := ⟨_, rfl⟩
      rw [← hv]
      have HV := hide hv
      clear g2 hv
      have hD := HD.out
      rw [HDR.out, List.map_cons, decF, ← HV.out] at hD
      by_cases hz : v = c
      · subst hz
        rw [if_pos rfl] at hD
        subst hD
        go_wp2
        go_ret
        exact ⟨rfl, G2.out⟩
      · rw [if_neg hz] at hD
        have hz' := ne_beq hz
        have HD2 := hide hD
        clear hz hD
        by_cases h2 : v = 2
        · subst h2
          go_wp2
          go_roundw
          case rel => exact ⟨j + 1, 2, by omega, by go_num, rfl, HD2.out, G2.out⟩
          case measure => simp [intOf]; omega
        · have h2' := ne_beq h2
          have HD3 : Hid (decF c ((l.drop (j + 1)).map (leadsE xs n)) o = R) := by
            have := HD2.out
            rw [if_neg h2] at this
            exact this
          clear h2 HD2
          go_wp2
          go_roundw
          case rel => exact ⟨j + 1, o, by omega, by go_num, rfl, HD3.out, G2.out⟩
          case measure => simp [intOf]; omega
    · obtain rfl : j = l.length := by omega
      have e : R = o := by
        have := HD.out
        rw [List.drop_length] at this
        exact this.symm
      subst e
      go_wp2
      go_ret
      exact ⟨rfl, HGR.out⟩

theorem small_get {xs : List Int} (hs : Small xs) (j : Nat) (h : j < xs.length) : 0 ≤ xs[j] ∧ xs[j] ≤ 2 := by
  rcases hs _ (List.getElem_mem h) with e | e | e <;> omega

set_option maxHeartbeats 4000000 in
set_option maxRecDepth 10000 in
theorem leads_at (xs : List Int) (hs : Small xs) : ∀ n, LeadsAt xs n := by
  intro n
  induction n with
  | zero => intro t; exact t.elim
  | succ n ih =>
    intro t c0 c1 c2 c3 xv w hw hx hf
    obtain ⟨kd, i, b, l, ao, cap, rfl, rfl, rfl, rfl, rfl, h1, h2, h3⟩ := hw.open
    have HR := hide h3
    have IH := hide ih
    have HX := hide hx
    obtain ⟨hw0, hf0⟩ := hf
    have HF := hide hf0
    obtain ⟨xo, xc, rfl, hx1, hx2, hx3⟩ := hx
    have HX3 := hide hx3
    clear hw h3 ih hf0 hx3
    have gA : Hid (w.grownBy (w.alloc (Obj.cells #[.int .i64 kd, .int .i64 i, .bool b, .slice ao l.length cap] 24)) none) := gr_alloc (gr_refl _ _) _
    rcases wrong_zero hw0 with ⟨hk, hl, hi0, hi1⟩ | ⟨hk, hl, hi, hb⟩
    · dsimp only at hk hl hi0 hi1
      subst hk
      have e : leadsE xs (n + 1) (1, i, b, l) = swV xs i b := by simp [leadsE]
      rw [e]
      obtain ⟨j, rfl⟩ : ∃ j : Nat, i = j := ⟨i.toNat, by omega⟩
      have hj : j < xs.length := by omega
      obtain ⟨gb, off, rfl, hgb, hcell⟩ := HX3.out j hj
      have q := gr_cell gA.out hcell
      have hv := small_get hs j hj
      have es : swV xs (j : Nat) b = if b = true ∧ xs[j] ≠ 2 then 1 - xs[j] else xs[j] := by unfold swV; simp [hj]
      rw [es]
      generalize xs[j] = v at *
      obtain ⟨hv0, hv2⟩ := hv
      have hne : gb ≠ w.heap.size := by omega
      clear es e q hw0
      cases b with
      | false =>
        rw [if_neg (by simp)]
        go_enter Try.func18, Try.ntmps18
        go_wp2
        go_ret
        exact ⟨rfl, gr_alloc (gr_refl _ _) _⟩
      | true =>
        by_cases h2 : v = 2
        · subst h2
          rw [if_neg (by simp)]
          go_enter Try.func18, Try.ntmps18
          go_wp2
          go_ret
          exact ⟨rfl, gr_alloc (gr_refl _ _) _⟩
        · have h2' := ne_beq h2
          rw [if_pos ⟨rfl, h2⟩]
          clear h2
          go_enter Try.func18, Try.ntmps18
          go_wp2_with fail
          refine (opposite_at v _ hv0 hv2).mono ?_
          rintro e w1 ⟨rfl, rfl⟩
          go_wp2
          go_ret
          exact ⟨rfl, gr_alloc (gr_refl _ _) _⟩
    · dsimp only at hk hl hi hb
      subst hi hb
      rcases hk with rfl | rfl
      · have e : leadsE xs (n + 1) (2, 0, false, l) = decF 0 (l.map (leadsE xs n)) (1 - 0) := by simp [leadsE]
        rw [e]
        clear e hw0
        go_enter Try.func18, Try.ntmps18
        go_wp2_with fail
        refine (decided_at xs n IH.out l ao cap _ 0 _ (HR.out.keep gA.out) h1 h2 (HX.out.keep gA.out) HF.out (by omega) (by omega)).mono ?_
        rintro e w1 ⟨rfl, g1⟩
        have G1 := hide (gr_none gA.out g1)
        clear g1
        go_wp2
        go_ret
        exact ⟨rfl, G1.out⟩
      · have e : leadsE xs (n + 1) (3, 0, false, l) = decF 1 (l.map (leadsE xs n)) (1 - 1) := by simp [leadsE]
        rw [e]
        clear e hw0
        go_enter Try.func18, Try.ntmps18
        go_wp2_with fail
        refine (decided_at xs n IH.out l ao cap _ 1 _ (HR.out.keep gA.out) h1 h2 (HX.out.keep gA.out) HF.out (by omega) (by omega)).mono ?_
        rintro e w1 ⟨rfl, g1⟩
        have G1 := hide (gr_none gA.out g1)
        clear g1
        go_wp2
        go_ret
        exact ⟨rfl, G1.out⟩
end Go.Proofs.Ytidnhafllbckcaa
