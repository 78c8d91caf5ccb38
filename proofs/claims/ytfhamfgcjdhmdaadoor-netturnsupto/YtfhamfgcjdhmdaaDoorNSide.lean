/- net: sideOf. -/
import Derived.Test.YtfhamfgcjdhmdaaDoorNTree
import Derived.Deep.RegionHeld3
namespace Go.Proofs.YtfhamfgcjdhmdaaDoor
open Go.RowKit
set_option linter.unusedVariables false

abbrev nv (x : Nat) : Value := iv (x : Int)

/-- Of nodes: 1 or 0. -/
def sideL (n : Nat) (E : List Pr) (a : Nat) : List Int := (List.range n).map (side E a)

theorem sideL_length (n : Nat) (E : List Pr) (a : Nat) : (sideL n E a).length = n := by simp [sideL]
theorem sideL_get (n : Nat) (E : List Pr) (a i : Nat) (h : i < (sideL n E a).length) : (sideL n E a)[i] = side E a i := by simp [sideL]

/-- The tree without one. -/
def without (E : List Pr) (T : List Nat) (t : Nat) : List Pr := sel E (T.filter (fun x => x != t))

def Sd1R (W : World) (g n : Nat) (E : List Pr) (T : List Nat) (t : Nat) (v : Value) (wr : World) : Prop := ∃ i : Nat, i ≤ T.length ∧ v = .int .i64 i ∧ IArr wr g (labs n (labF (without E (T.take i) t))) ∧ W.grownBy wr none

def Sd2R (W : World) (g g2 n : Nat) (E : List Pr) (a : Nat) (v : Value) (wr : World) : Prop := ∃ i : Nat, i ≤ n ∧ v = .int .i64 i ∧ IArr wr g (labs n (labF E)) ∧ IArr wr g2 ((List.range n).map (fun x => if x < i then side E a x else 0)) ∧ W.grownBy wr none

theorem without_snoc {E : List Pr} {T : List Nat} {t i : Nat} (h : i < T.length) : without E (T.take (i + 1)) t = if T[i] = t then without E (T.take i) t else without E (T.take i) t ++ [E.getD T[i] (0, 0)] := by
  unfold without
  rw [List.take_succ_eq_append_getElem h, List.filter_append]
  by_cases e : T[i] = t
  · rw [if_pos e]; simp [e]
  · rw [if_neg e]
    simp [sel, e]

/-- What sideOf answers. -/
def SideE (w : World) (n : Nat) (E : List Pr) (T : List Nat) (t : Nat) (e : Ending) (w' : World) : Prop := ∃ g, e = .returned (.slice (some ⟨g, 0, none⟩) n n) ∧ IArr w' g (sideL n (without E T t) (E.getD t (0, 0)).1) ∧ w.grownBy w' none

set_option maxHeartbeats 4000000 in
set_option maxRecDepth 10000 in
theorem sideOf_at (n : Nat) (pv tv : Value) (ps : List Prt) (T : List Nat) (t : Nat) (w : World) (hp : PartsAt w pv ps) (hG : Good (n : Int) ps n) (hT : RowG nv w tv T) (hTl : ∀ x ∈ T, x < ps.length) (hT16 : T.length ≤ 16) (ht : t < ps.length) :
    Calls Tryd.prog 19 #[.agg #[.int .i64 (n : Nat), pv], tv, .int .i64 (t : Nat)] w fun e w' => SideE w n (prs ps) T t e w' := by
  obtain ⟨ao, cap, rfl, h1, h2, h3⟩ := hp
  obtain ⟨to_, tc, rfl, t1, t2, t3⟩ := hT
  unfold maxLen at h2 t2
  obtain ⟨g0, g1, g2, g3, g4⟩ := hG
  have HE := hide g4
  have HPC := hide h3
  have HTC := hide t3
  have HTL := hide hTl
  clear h3 g4 g0 t3 hTl
  go_enter Tryd.func19, Tryd.ntmps19
  go_wp2_with fail
  obtain ⟨Wa, hWa⟩ : ∃ W, W = w.alloc (Obj.cells #[.int .i64 (n : Nat), .slice ao ps.length cap] 24) := ⟨_, rfl⟩
  have GW : Hid (w.grownBy Wa none) := by rw [hWa]; exact gr_alloc (gr_refl _ _) _
  have RES : Hid (∀ wr : World, Wa.grownBy wr none → wr.cell? ⟨w.heap.size, 0, none⟩ = some (.int .i64 (n : Nat)) ∧ wr.cell? ⟨w.heap.size, 1, none⟩ = some (.slice ao ps.length cap)) := by
    intro wr hg
    rw [hWa] at hg
    exact ⟨hg.cell (by go_simp) (by simp), hg.cell (by go_simp) (by simp)⟩
  have hws : w.heap.size < Wa.heap.size := by rw [hWa]; simp
  rw [← hWa]
  clear hWa
  refine (apart_at n _ g2).mono ?_
  rintro e w2 ⟨rfl, a1, a2⟩
  have A1 := hide a1
  have A2 := hide a2
  have hgs : Wa.heap.size ≤ Wa.heap.size := Nat.le_refl _
  generalize hgg0 : Wa.heap.size = g at a1 a2 A1 hgs hws
  rw [← hgg0] at hgs
  have HG0 := hide hgg0
  obtain ⟨n0, n1⟩ := RES.out w2 a2
  clear a1 a2 hgg0
  go_wp2
  go_loopw [18] (fun v wr => Hid (Sd1R Wa g n (prs ps) T t v wr)) (fun v _ => T.length - (intOf v).toNat)
  case atStart => exact ⟨0, by omega, rfl, A1.out, A2.out⟩
  case round =>
    obtain ⟨i, hi, rfl, l1, l2⟩ := hrel.out
    have L1 := hide l1
    have L2 := hide l2
    obtain ⟨m0, m1⟩ := RES.out wr l2
    clear l1 l2 hrel n0 n1 A1 A2
    by_cases hlt : i < T.length
    · obtain ⟨tb, toff, rfl, htb, htc⟩ := HTC.out i hlt
      have htl := HTL.out T[i] (List.getElem_mem hlt)
      have hws2 := without_snoc (E := prs ps) (t := t) hlt
      have qt := (gr_none GW.out L2.out).cell htc (by simp)
      obtain ⟨x, hx⟩ : ∃ x, x = T[i] := ⟨_, rfl⟩
      rw [← hx] at qt htl hws2
      have HWS2 := hide hws2
      clear htc hws2 hx HTC
      by_cases hxt : x = t
      · have hxt' : ((x : Int) != (t : Int)) = false := by simp [hxt]
        have HXT := hide hxt
        clear hxt
        go_wp2
        go_roundw
        case rel => exact ⟨i + 1, by omega, by go_num, by rw [HWS2.out, if_pos HXT.out]; exact L1.out, L2.out⟩
        case measure => simp [intOf]; omega
      · have hxt' : ((x : Int) != (t : Int)) = true := by rw [bne_iff_ne]; omega
        have HXT := hide hxt
        obtain ⟨b, off, rfl, hb, c0, c1, c2, c3, c4, c5, c6⟩ := HPC.out x htl
        obtain ⟨ea, eb, e1, e2, e3, e4⟩ := HE.out x htl
        have hgg := gr_none GW.out L2.out
        have q1 := hgg.cell c1 (by simp)
        have q2 := hgg.cell c2 (by simp)
        have hpt := prs_get (ps := ps) htl
        rw [e1, e2, Int.toNat_natCast, Int.toNat_natCast] at hpt
        rw [e1] at q1
        rw [e2] at q2
        have HPT := hide hpt
        have hbg : some b ≠ some g := by
          intro e
          have := Option.some.inj e
          have := HG0.out
          omega
        have hwg : some w.heap.size ≠ some g := by
          intro e
          have := Option.some.inj e
          omega
        clear c0 c1 c2 c3 c4 c5 c6 hgg e1 e2 hpt hxt
        go_wp2_with fail
        go_region_held3 (fun w' => w'.cell? ⟨w.heap.size, 1, none⟩ = some (.slice (some ⟨b, off, none⟩) ps.length cap) ∧ w'.cell? ⟨b, off + x * 6 + 1, none⟩ = some (.int .i64 (ea : Nat)) ∧ w'.cell? ⟨b, off + x * 6 + 2, none⟩ = some (.int .i64 (eb : Nat))) (go_keep)
          (first | (go_at_call 16; refine (join_lab g n n (without (prs ps) (T.take i) t) ea eb _ g2 e3 e4 (L1.out.keep0 (gr_d _)) (by omega) (by unfold maxLen; omega)).mono ?_; rintro e w3 ⟨rfl, j1, j2⟩; have s1 := (gr_trans (r1 := none) (r2 := some g) (gr_d _) j2 (fun _ _ e => by cases e) (fun _ _ e => e)).cell m1 hwg; have s2 := (gr_trans (r1 := none) (r2 := some g) (gr_d _) j2 (fun _ _ e => by cases e) (fun _ _ e => e)).cell q1 hbg; have s3 := (gr_trans (r1 := none) (r2 := some g) (gr_d _) j2 (fun _ _ e => by cases e) (fun _ _ e => e)).cell q2 hbg))
        have J1 : Hid (IArr w3 g (labs n (labF (without (prs ps) (T.take (i + 1)) t)))) := by
          rw [HWS2.out, if_neg HXT.out, HPT.out]
          exact j1
        have J2 := hide (gr_in (gr_drewN L2.out _) j2 (by have := HG0.out; omega))
        clear j1 j2 s1 s2 s3 HPC HTL
        go_wp2
        go_roundw
        case rel => exact ⟨i + 1, by omega, by go_num, J1.out, J2.out⟩
        case measure => simp [intOf]; omega
    · have htk : T.take i = T := List.take_of_length_le (by omega)
      rw [htk] at L1
      clear htk HTC HTL
      obtain ⟨b, off, rfl, hb, c0, c1, c2, c3, c4, c5, c6⟩ := HPC.out t ht
      obtain ⟨ea, eb, e1, e2, e3, e4⟩ := HE.out t ht
      rw [e1] at c1
      have hpt := prs_get (ps := ps) ht
      rw [e1, e2, Int.toNat_natCast, Int.toNat_natCast] at hpt
      have HPT := hide hpt
      have C1 := hide c1
      clear c0 c1 c2 c3 c4 c5 c6 e1 e2 hpt HPC HE
      go_wp2_with (at_make; refine wpList_make_g iv 3 0 8 _ rfl _ _ 32 rfl Tryd.underlying32 Tryd.infoInt rfl _ _ _ _ n rfl rfl (by omega) (by omega) (by omega) (by omega) ?_)
      intro w5 harr hgr
      have HR := hide harr
      have L5 := hide (L1.out.keep0 hgr)
      have G5 := hide (gr_none L2.out hgr)
      have hg2 : g < wr.heap.size := L1.out.lt
      have hgW : Wa.heap.size ≤ wr.heap.size := L2.out.size
      generalize wr.heap.size = gs at *
      clear harr hgr L1 L2 m0 m1
      go_wp2
      go_loopw [45] (fun v wr => Hid (Sd2R Wa g gs n (without (prs ps) T t) ea v wr)) (fun v _ => n - (intOf v).toNat)
      case atStart =>
        refine ⟨0, by omega, rfl, L5.out, ?_, G5.out⟩
        have e : (List.range n).map (fun x => if x < 0 then side (without (prs ps) T t) ea x else 0) = List.replicate n 0 := by
          apply List.ext_getElem
          · simp
          · intro i h1 h2; simp
        rw [e]
        exact HR.out
      case round =>
        obtain ⟨j, hj, rfl, k1, k2, k3⟩ := hrel.out
        obtain ⟨m0, m1⟩ := RES.out wr k3
        by_cases hlt2 : j < n
        · have ca := k1.cell ea (by rw [labs_length]; exact e3)
          have cj := k1.cell j (by rw [labs_length]; exact hlt2)
          rw [labs_get] at ca cj
          have qa := (gr_none GW.out k3).cell C1.out (by simp)
          have hfr := k2.free j
          obtain ⟨v0, hco⟩ : ∃ v, wr.cell? ⟨gs, j, none⟩ = some v := ⟨_, k2.cell j (by simp; exact hlt2)⟩
          have K1 := hide k1
          have K2 := hide k2
          have K3 := hide k3
          by_cases hes : labF (without (prs ps) T t) j = labF (without (prs ps) T t) ea
          · have HES := hide hes
            rw [hes] at cj
            generalize labF (without (prs ps) T t) ea = x at ca cj
            clear hes k1 k2 k3 hrel
            go_wp2
            go_roundw
            case rel =>
              refine ⟨j + 1, by omega, by go_num, ?_, ?_, gr_set K3.out _ _ hgW⟩
              · exact K1.out.keep (gr_row (gr_refl wr _) gs j (.int .i64 1) rfl) (by intro e; have := Option.some.inj e; omega)
              · have := K2.out.set j 1 (.int .i64 1) rfl
                have e : ((List.range n).map (fun x => if x < j then side (without (prs ps) T t) ea x else 0)).set j 1 = (List.range n).map (fun x => if x < j + 1 then side (without (prs ps) T t) ea x else 0) := by
                  apply List.ext_getElem
                  · simp
                  · intro q h1 h2
                    rw [List.getElem_set]
                    by_cases e : j = q
                    · subst e
                      simp [side, HES.out]
                    · by_cases e2 : q < j
                      · simp [e, e2, Nat.lt_succ_of_lt e2]
                      · have e3 : ¬ q < j + 1 := by omega
                        simp [e, e2, e3]
                rw [e] at this
                exact this
            case measure => simp [intOf]; omega
          · have HES := hide hes
            have hbe : (((labF (without (prs ps) T t) j : Nat) : Int) == ((labF (without (prs ps) T t) ea : Nat) : Int)) = false := by rw [beq_eq_false_iff_ne]; omega
            generalize labF (without (prs ps) T t) ea = x at ca hbe
            generalize labF (without (prs ps) T t) j = y at cj hbe
            clear hes k1 k2 k3 hrel
            go_wp2
            go_roundw
            case rel =>
              refine ⟨j + 1, by omega, by go_num, K1.out, ?_, K3.out⟩
              have e : (List.range n).map (fun x => if x < j then side (without (prs ps) T t) ea x else 0) = (List.range n).map (fun x => if x < j + 1 then side (without (prs ps) T t) ea x else 0) := by
                apply List.map_congr_left
                intro q _
                by_cases e : q = j
                · subst e
                  rw [if_neg (by omega), if_pos (by omega)]
                  unfold side
                  rw [if_neg HES.out]
                · by_cases e2 : q < j
                  · rw [if_pos e2, if_pos (by omega)]
                  · rw [if_neg e2, if_neg (by omega)]
              have := K2.out
              rw [e] at this
              exact this
            case measure => simp [intOf]; omega
        · obtain rfl : j = n := by omega
          have K2 := hide k2
          have K3 := hide k3
          clear k1 k2 k3 hrel
          go_wp2
          go_ret
          refine ⟨gs, rfl, ?_, gr_none GW.out K3.out⟩
          rw [HPT.out]
          have e : (List.range j).map (fun x => if x < j then side (without (prs ps) T t) ea x else 0) = sideL j (without (prs ps) T t) ea := by
            unfold sideL
            apply List.map_congr_left
            intro q hq
            rw [if_pos (List.mem_range.1 hq)]
          have := K2.out
          rw [e] at this
          exact this
end Go.Proofs.YtfhamfgcjdhmdaaDoor
