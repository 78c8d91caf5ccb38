/- voltaicref: Leads. -/
import Derived.Test.YtidnhafllbckcaaGMath2
namespace Go.Proofs.Ytidnhafllbckcaa
open Go.RowKit
set_option linter.unusedVariables false
set_option linter.unusedSimpArgs false

theorem three_count : ∀ vs : List Int, (∀ v ∈ vs, v = 0 ∨ v = 1 ∨ v = 2) → vs.length = vs.count 0 + vs.count 1 + vs.count 2
  | [], _ => rfl
  | v :: r, h => by
    have ih := three_count r fun u hu => h u (by simp [hu])
    rcases h v (by simp) with rfl | rfl | rfl <;> simp [List.count_cons] <;> omega

theorem count_step (vs : List Int) (v c : Int) : (vs ++ [v]).count c = vs.count c + if v = c then 1 else 0 := by
  rw [List.count_append, List.count_singleton]
  by_cases h : v = c <;> simp [h]

/-- What the loop keeps: how many ones there are, and how many that aren't known. -/
def LdsR (w : World) (xs : List Int) (n : Nat) (l : List (Ex n)) (bx : Nat) (cs : Array Value) (ov uv iv : Value) (wr : World) : Prop :=
  ∃ i : Nat, i ≤ l.length ∧ iv = .int .i64 (i : Nat) ∧ ov = .int .i64 (((l.take i).map (leadsE xs n)).count 1 : Nat) ∧ uv = .int .i64 (((l.take i).map (leadsE xs n)).count 2 : Nat) ∧ BoxC wr bx cs ∧ w.grownBy wr none

set_option maxHeartbeats 8000000 in
set_option maxRecDepth 10000 in
theorem rLeads_at (xs : List Int) (hs : Small xs) : ∀ (n : Nat) (t : Ex n) (c0 c1 c2 c3 xv : Value) (w : World), WayC w n c0 c1 c2 c3 t → IntR w xv xs → FineE xs.length n t →
    Calls Try.prog 12 #[.agg #[c0, c1, c2, c3], xv] w fun e w' => e = .returned (.int .i64 (leadsE xs n t)) ∧ w.grownBy w' none := by
  intro n
  induction n with
  | zero => intro t; exact t.elim
  | succ n ih =>
    intro t c0 c1 c2 c3 xv w hw hx hf
    obtain ⟨kd, i, b, l, ao, cap, rfl, rfl, rfl, rfl, rfl, h1, h2, h3⟩ := hw.open
    have HR := hide h3
    have IH := hide ih
    have HX := hide hx
    obtain ⟨hw0, hf0⟩ := hf
    have HF := hide hf0
    obtain ⟨xo, xc, rfl, hx1, hx2, hx3⟩ := hx
    have HX3 := hide hx3
    have HSM := hide hs
    dsimp only at hw0
    unfold maxLen at h2
    clear hw h3 ih hf0 hx3
    rcases wrong_zero hw0 with ⟨rfl, hl, hi0, hi1⟩ | ⟨hk, hl, rfl, rfl⟩
    · have e : leadsE xs (n + 1) (1, i, b, l) = swV xs i b := leadsE_sw (t := (1, i, b, l)) (by show (1 : Int) ≠ 2; decide) (by show (1 : Int) ≠ 3; decide)
      rw [e]
      obtain ⟨j, rfl⟩ : ∃ j : Nat, i = j := ⟨i.toNat, by omega⟩
      have hj : j < xs.length := by omega
      obtain ⟨gb, off, rfl, hgb, hcell⟩ := HX3.out j hj
      have hv := hs _ (List.getElem_mem hj)
      have es : swV xs (j : Nat) b = if b = true ∧ xs[j] ≠ 2 then 1 - xs[j] else xs[j] := by unfold swV; simp [hj]
      rw [es]
      generalize xs[j] = v at *
      have hne : gb ≠ w.heap.size := by omega
      clear es e hw0
      cases b with
      | false =>
        rw [if_neg (by simp)]
        clear hv
        go_enter Try.func12, Try.ntmps12
        go_wp2
        go_ret
        exact ⟨rfl, gr_alloc (gr_refl _ _) _⟩
      | true =>
        rcases hv with rfl | rfl | rfl
        all_goals
          go_enter Try.func12, Try.ntmps12
          go_wp2
          go_ret
          exact ⟨rfl, gr_alloc (gr_alloc (gr_refl _ _) _) _⟩
    · obtain ⟨vs, hvs⟩ : ∃ vs, vs = l.map (leadsE xs n) := ⟨_, rfl⟩
      have hall : ∀ v ∈ vs, v = 0 ∨ v = 1 ∨ v = 2 := fun v hv => by
        rw [hvs] at hv
        obtain ⟨u, _, rfl⟩ := List.mem_map.1 hv
        exact leads_small hs n u
      have h3c := three_count vs hall
      have hvl : vs.length = l.length := by rw [hvs]; simp
      have HVS := hide hvs
      have gA := hide (gr_alloc (gr_refl w none) (Obj.cells #[.int .i64 kd, .int .i64 0, .bool false, .slice ao l.length cap] 24))
      have BA := hide (boxNew w #[.int .i64 kd, .int .i64 0, .bool false, .slice ao l.length cap] 24)
      have hkd : (kd == 1) = false := ne_beq (by omega)
      have ST : Hid (LdsR w xs n l w.heap.size #[.int .i64 kd, .int .i64 0, .bool false, .slice ao l.length cap] (.int .i64 0) (.int .i64 0) (.int .i64 0) (w.alloc (Obj.cells #[.int .i64 kd, .int .i64 0, .bool false, .slice ao l.length cap] 24))) := ⟨0, Nat.zero_le _, rfl, rfl, rfl, BA.out, gA.out⟩
      obtain ⟨R, hR⟩ : ∃ R, R = leadsE xs (n + 1) (kd, 0, false, l) := ⟨_, rfl⟩
      rw [← hR]
      have HRR := hide hR
      clear hvs hall hw0 hR hs
      go_enter Try.func12, Try.ntmps12
      go_wp2
      go_loopw [6, 7, 29] (fun ov uv iv wr => Hid (LdsR w xs n l w.heap.size #[.int .i64 kd, .int .i64 0, .bool false, .slice ao l.length cap] ov uv iv wr)) (fun _ _ iv _ => l.length - (intOf iv).toNat)
      case atStart => exact ST.out
      case round =>
        clear ST gA BA
        obtain ⟨j, hj, rfl, rfl, rfl, hbx, hgr⟩ := hrel.out
        have HBX := hide hbx
        have HGR := hide hgr
        clear hrel hbx hgr
        by_cases hlt : j < l.length
        · obtain ⟨bb, off, rfl, hb, d0, d1, d2, d3, k0, k1, k2, k3, hk2⟩ := HR.out j hlt
          have q0 := gr_cell HGR.out k0
          have q1 := gr_cell HGR.out k1
          have q2 := gr_cell HGR.out k2
          have q3 := gr_cell HGR.out k3
          have HK := hide hk2
          obtain ⟨kd2, i2, b2, ao2, len2, cap2, rfl, rfl, rfl, rfl⟩ := hk2.cells
          have htk : (l.take (j + 1)).map (leadsE xs n) = (l.take j).map (leadsE xs n) ++ [leadsE xs n (l[j])] := by
            rw [List.take_succ_eq_append_getElem hlt, List.map_append]
            rfl
          have HTK := hide htk
          have hc1 : ((l.take j).map (leadsE xs n)).count 1 ≤ j := by
            have := List.count_le_length (a := (1 : Int)) (l := (l.take j).map (leadsE xs n))
            rw [List.length_map, List.length_take] at this
            omega
          have hc2 : ((l.take j).map (leadsE xs n)).count 2 ≤ j := by
            have := List.count_le_length (a := (2 : Int)) (l := (l.take j).map (leadsE xs n))
            rw [List.length_map, List.length_take] at this
            omega
          obtain ⟨p1, hp1⟩ : ∃ p1, p1 = ((l.take j).map (leadsE xs n)).count 1 := ⟨_, rfl⟩
          obtain ⟨p2, hp2⟩ : ∃ p2, p2 = ((l.take j).map (leadsE xs n)).count 2 := ⟨_, rfl⟩
          rw [← hp1] at hc1 ⊢
          rw [← hp2] at hc2 ⊢
          have HP1 := hide hp1
          have HP2 := hide hp2
          clear k0 k1 k2 k3 hk2 htk hp1 hp2 h3c hvl
          go_wp2_with fail
          refine (IH.out (l[j]) _ _ _ _ _ _ (HK.out.keep (gr_alloc HGR.out _)) (HX.out.keep (gr_alloc HGR.out _)) (HF.out _ (List.getElem_mem hlt))).mono ?_
          rintro e w2 ⟨rfl, g2⟩
          have HBX2 := hide ((HBX.out.keep0 (gr_alloc (gr_refl _ _) _)).keep0 g2)
          have G2 := hide (gr_none (gr_alloc HGR.out _) g2)
          obtain ⟨v, hv⟩ : ∃ v, v = leadsE xs n (l[j]) := ⟨_, rfl⟩
          rw [← hv]
          have HV := hide hv
          clear g2 hv
          by_cases v1 : v = 1
          · subst v1
            go_wp2
            go_roundw
            case rel =>
              refine ⟨j + 1, by omega, by go_num, ?_, ?_, HBX2.out, G2.out⟩
              · rw [HTK.out, ← HV.out, count_step, ← HP1.out]; simp
              · rw [HTK.out, ← HV.out, count_step, ← HP2.out]; simp
            case measure => simp [intOf]; omega
          · have v1' := ne_beq v1
            by_cases v2 : v = 2
            · subst v2
              clear v1
              go_wp2
              go_roundw
              case rel =>
                refine ⟨j + 1, by omega, by go_num, ?_, ?_, HBX2.out, G2.out⟩
                · rw [HTK.out, ← HV.out, count_step, ← HP1.out]; simp
                · rw [HTK.out, ← HV.out, count_step, ← HP2.out]; simp
              case measure => simp [intOf]; omega
            · have v2' := ne_beq v2
              have HV1 := hide v1
              have HV2 := hide v2
              clear v1 v2
              go_wp2
              go_roundw
              case rel =>
                refine ⟨j + 1, by omega, by go_num, ?_, ?_, HBX2.out, G2.out⟩
                · rw [HTK.out, ← HV.out, count_step, ← HP1.out, if_neg HV1.out]; simp
                · rw [HTK.out, ← HV.out, count_step, ← HP2.out, if_neg HV2.out]; simp
              case measure => simp [intOf]; omega
        · obtain rfl : j = l.length := by omega
          rw [List.take_length, ← HVS.out]
          obtain ⟨q0, q1, q2, q3⟩ := HBX.out.c4
          have m0 : 0 < vs.count 0 ↔ (0 : Int) ∈ vs := List.count_pos_iff
          have m1 : 0 < vs.count 1 ↔ (1 : Int) ∈ vs := List.count_pos_iff
          have m2 : 0 < vs.count 2 ↔ (2 : Int) ∈ vs := List.count_pos_iff
          obtain ⟨p0, hp0⟩ : ∃ p, p = vs.count 0 := ⟨_, rfl⟩
          obtain ⟨p1, hp1⟩ : ∃ p, p = vs.count 1 := ⟨_, rfl⟩
          obtain ⟨p2, hp2⟩ : ∃ p, p = vs.count 2 := ⟨_, rfl⟩
          rw [← hp0] at m0 h3c
          rw [← hp1] at m1 h3c ⊢
          rw [← hp2] at m2 h3c ⊢
          rw [hvl] at h3c
          clear hp0 hp1 hp2
          rcases hk with rfl | rfl
          · have e : R = decF 0 vs 1 := by rw [HRR.out, HVS.out]; exact leadsE_two rfl
            rw [decF_eq 0 (by decide)] at e
            have hn : (0 : Int) ≤ (l.length : Int) - (p1 : Int) ∧ (l.length : Int) - (p1 : Int) ≤ 9223372036854775807 := ⟨by omega, by omega⟩
            by_cases hz0 : 0 < p0
            · rw [if_pos (m0.1 hz0)] at e
              subst e
              have hgt : (0 : Int) < (l.length : Int) - (p1 : Int) - (p2 : Int) := by omega
              clear m0 m1 m2 h3c hvl
              go_wp2
              go_ret
              exact ⟨rfl, HGR.out⟩
            · rw [if_neg (fun h => hz0 (m0.2 h))] at e
              have hgt : ¬ (0 : Int) < (l.length : Int) - (p1 : Int) - (p2 : Int) := by omega
              have hge : (0 : Int) ≤ (l.length : Int) - (p1 : Int) - (p2 : Int) := by omega
              by_cases hz2 : 0 < p2
              · rw [if_pos (m2.1 hz2)] at e
                subst e
                have hz2i : (0 : Int) < (p2 : Int) := by omega
                clear m0 m1 m2 h3c hvl
                go_wp2
                go_ret
                exact ⟨rfl, HGR.out⟩
              · rw [if_neg (fun h => hz2 (m2.2 h))] at e
                subst e
                have hz2i : ¬ (0 : Int) < (p2 : Int) := by omega
                clear m0 m1 m2 h3c hvl
                go_wp2
                go_ret
                exact ⟨rfl, HGR.out⟩
          · have e : R = decF 1 vs 0 := by rw [HRR.out, HVS.out]; exact leadsE_three rfl
            rw [decF_eq 1 (by decide)] at e
            have hn : (0 : Int) ≤ (l.length : Int) - (p1 : Int) ∧ (l.length : Int) - (p1 : Int) ≤ 9223372036854775807 := ⟨by omega, by omega⟩
            have hge : (0 : Int) ≤ (l.length : Int) - (p1 : Int) - (p2 : Int) := by omega
            by_cases hz1 : 0 < p1
            · rw [if_pos (m1.1 hz1)] at e
              subst e
              have hz1i : (0 : Int) < (p1 : Int) := by omega
              clear m0 m1 m2 h3c hvl
              go_wp2
              go_ret
              exact ⟨rfl, HGR.out⟩
            · rw [if_neg (fun h => hz1 (m1.2 h))] at e
              have hz1i : ¬ (0 : Int) < (p1 : Int) := by omega
              by_cases hz2 : 0 < p2
              · rw [if_pos (m2.1 hz2)] at e
                subst e
                have hz2i : (0 : Int) < (p2 : Int) := by omega
                clear m0 m1 m2 h3c hvl
                go_wp2
                go_ret
                exact ⟨rfl, HGR.out⟩
              · rw [if_neg (fun h => hz2 (m2.2 h))] at e
                subst e
                have hz2i : ¬ (0 : Int) < (p2 : Int) := by omega
                clear m0 m1 m2 h3c hvl
                go_wp2
                go_ret
                exact ⟨rfl, HGR.out⟩
end Go.Proofs.Ytidnhafllbckcaa
