/- voltaicref: Joined, whatever is asked of the parts. -/
import Derived.Test.YtfhamfgcjdhmdaaGreatDoorRMath
namespace Go.Proofs.YtfhamfgcjdhmdaaGreatDoor
open Go.RowKit
set_option linter.unusedVariables false

/-- What Joined answers. -/
def JoinedE (w : World) (n : Nat) (L : List Pr) (e : Ending) (w' : World) : Prop := ∃ g, e = .returned (.slice (some ⟨g, 0, none⟩) n n) ∧ IArr w' g (labs n (labF L)) ∧ w.grownBy w' none ∧ w.heap.size ≤ g

def Jo1R (W : World) (g n : Nat) (v : Value) (wr : World) : Prop := ∃ k : Nat, k ≤ n ∧ v = .int .i64 k ∧ IArr wr g (labs n fun x => if x < k then x else 0) ∧ W.grownBy wr none
def Jo2R (W : World) (g n : Nat) (L : List Pr) (v : Value) (wr : World) : Prop := ∃ r : Nat, r ≤ n ∧ v = .int .i64 r ∧ IArr wr g (labs n (roundsJ L r)) ∧ W.grownBy wr none
def Jo3R (W : World) (g n m : Nat) (E : List Pr) (s : Nat → Bool) (l : Nat → Nat) (v : Value) (wr : World) : Prop := ∃ i : Nat, i ≤ m ∧ v = .int .i64 i ∧ IArr wr g (labs n (roundJ (picked E s i) l)) ∧ W.grownBy wr none

theorem labs_step (n : Nat) (l : Nat → Nat) (a b lo : Nat) (ha : a < n) (hb : b < n) (h : lo = min (l a) (l b)) : ((labs n l).set a ((lo : Nat) : Int)).set b ((lo : Nat) : Int) = labs n (stepJ l (a, b)) := by
  rw [labs_set n l a lo ha, labs_set n _ b lo hb]
  apply labs_congr
  intro x _
  unfold stepJ
  by_cases e1 : x = b
  · rw [if_pos e1, if_pos (.inr e1), h]
  · rw [if_neg e1]
    by_cases e2 : x = a
    · rw [if_pos e2, if_pos (.inl e2), h]
    · rw [if_neg e2, if_neg (by simp [e1, e2])]

theorem labs_step' (n : Nat) (l : Nat → Nat) (a b lo : Nat) (ha : a < n) (hb : b < n) (h : lo = min (l a) (l b)) : ((labs n l).set b ((lo : Nat) : Int)).set a ((lo : Nat) : Int) = labs n (stepJ l (a, b)) := by
  rw [labs_set n l b lo hb, labs_set n _ a lo ha]
  apply labs_congr
  intro x _
  unfold stepJ
  by_cases e1 : x = a
  · rw [if_pos e1, if_pos (.inl e1), h]
  · rw [if_neg e1]
    by_cases e2 : x = b
    · rw [if_pos e2, if_pos (.inr e2), h]
    · rw [if_neg e2, if_neg (by simp [e1, e2])]

theorem round_lt {E : List Pr} {n : Nat} (F : List Pr) (l : Nat → Nat) (h : ∀ x, x < n → l x ≤ 8) : ∀ x, x < n → roundJ F l x ≤ 8 := fun x hx => Nat.le_trans (round_le F l x) (h x hx)

theorem rounds_lt (L : List Pr) (r : Nat) {n : Nat} (hn : n ≤ 8) : ∀ x, x < n → roundsJ L r x ≤ 8 := fun x hx => by
  have := (rounds_within L r x).2
  omega

theorem roundJ_snoc (E : List Pr) (p : Pr) (l : Nat → Nat) : roundJ (E ++ [p]) l = stepJ (roundJ E l) p := by simp [roundJ]

theorem prs_lt {ps : List Prt} {n : Nat} (h : ∀ i (h : i < ps.length), ∃ a b : Nat, ps[i].a = (a : Int) ∧ ps[i].b = (b : Int) ∧ a < n ∧ b < n) : ∀ p ∈ prs ps, p.1 < n ∧ p.2 < n := by
  intro p hp
  unfold prs at hp
  obtain ⟨q, hq, rfl⟩ := List.mem_map.1 hp
  obtain ⟨i, hi, rfl⟩ := List.getElem_of_mem hq
  obtain ⟨a, b, e1, e2, e3, e4⟩ := h i hi
  rw [e1, e2]
  exact ⟨by simpa using e3, by simpa using e4⟩

set_option maxHeartbeats 4000000 in
set_option maxRecDepth 10000 in
theorem joined_all (n : Nat) (pv : Value) (ps : List Prt) (s : Nat → Bool) (w : World) (hp : PartsAt w pv ps) (hG : Good (n : Int) ps n)
    (hcl : ∀ (i : Nat) (wx : World), i < ps.length → w.grownBy wx none → Calls Tryz.prog 30 #[.int .i64 (i : Nat)] wx fun e wy => e = .returned (.bool (s i)) ∧ wx.grownBy wy none) :
    Calls Tryz.prog 29 #[.agg #[.int .i64 (n : Nat), pv], .func (.func 30) #[] #[]] w fun e w' => JoinedE w n (picked (prs ps) s ps.length) e w' := by
  obtain ⟨ao, cap, rfl, h1, h2, h3⟩ := hp
  unfold maxLen at h2
  obtain ⟨_, g1, g2, g3, g4⟩ := hG
  have HE := hide g4
  have HPC := hide h3
  have HCL := hide hcl
  have HLT := hide (prs_lt g4)
  have HPL : Hid ((prs ps).length = ps.length) := by simp [prs, Hid]
  clear h3 g4 hcl
  go_enter Tryz.func29, Tryz.ntmps29
  go_wp2_with (at_make; refine wpList_make_g iv 3 0 8 _ rfl _ _ 42 rfl Tryz.underlying42 Tryz.infoInt rfl _ _ _ _ n rfl rfl (by omega) (by omega) (by omega) (by omega) ?_)
  intro w1 harr hgr
  obtain ⟨Wa, hWa⟩ : ∃ W, W = w.alloc (Obj.cells #[.int .i64 (n : Nat), .slice ao ps.length cap] 38) := ⟨_, rfl⟩
  rw [← hWa] at hgr
  have GW : Hid (w.grownBy Wa none) := by rw [hWa]; exact gr_alloc (gr_refl _ _) _
  have RES : Hid (∀ wr : World, Wa.grownBy wr none → wr.cell? ⟨w.heap.size, 0, none⟩ = some (.int .i64 (n : Nat)) ∧ wr.cell? ⟨w.heap.size, 1, none⟩ = some (.slice ao ps.length cap)) := by
    intro wr hg
    rw [hWa] at hg
    exact ⟨hg.cell (by go_simp) (by simp), hg.cell (by go_simp) (by simp)⟩
  have hWs : Wa.heap.size = w.heap.size + 1 := by rw [hWa]; simp
  obtain ⟨g, hg⟩ : ∃ g, g = w.heap.size + 1 := ⟨_, rfl⟩
  have hge : Wa.heap.size ≤ g := by omega
  have hgw : w.heap.size ≤ g := by omega
  rw [← hg] at harr ⊢
  have AR := hide harr
  have GR := hide hgr
  obtain ⟨n0, n1⟩ := RES.out w1 hgr
  clear harr hgr hWa hg hWs
  go_wp2
  go_loopw [15] (fun v wr => Hid (Jo1R Wa g n v wr)) (fun v _ => n - (intOf v).toNat)
  case atStart =>
    refine ⟨0, by omega, rfl, ?_, GR.out⟩
    have e : labs n (fun x => if x < 0 then x else 0) = List.replicate n 0 := by
      apply List.ext_getElem
      · simp [labs]
      · intro i h1 h2; simp [labs]
    rw [e]
    exact AR.out
  case round =>
    obtain ⟨k, hk, rfl, l1, l2⟩ := hrel.out
    by_cases hlt : k < n
    · have hfr := l1.free k
      obtain ⟨v0, hco⟩ : ∃ v, wr.cell? ⟨g, k, none⟩ = some v := ⟨_, l1.cell k (by rw [labs_length]; exact hlt)⟩
      have H1 := hide l1
      have H2 := hide l2
      clear l1 l2 hrel n0 n1
      go_wp2
      go_roundw
      case rel =>
        refine ⟨k + 1, by omega, by go_num, ?_, gr_set H2.out _ _ hge⟩
        have := H1.out.set k ((k : Nat) : Int) (.int .i64 (k : Nat)) rfl
        rw [labs_set n _ k k hlt] at this
        rw [labs_congr n (fun x => if x < k + 1 then x else 0) (fun x => if x = k then k else if x < k then x else 0)]
        · exact this
        · intro x hx
          by_cases e : x = k
          · subst e; simp
          · by_cases e2 : x < k
            · rw [if_pos (by omega), if_neg e, if_pos e2]
            · rw [if_neg (by omega), if_neg e, if_neg e2]
      case measure => simp [intOf]; omega
    · obtain rfl : k = n := by omega
      have H1 := hide l1
      have H2 := hide l2
      obtain ⟨n0, n1⟩ := RES.out wr l2
      clear l1 l2 hrel
      go_wp2
      go_loopw [25] (fun v wr => Hid (Jo2R Wa g k (picked (prs ps) s ps.length) v wr)) (fun v _ => k - (intOf v).toNat)
      case atStart =>
        refine ⟨0, by omega, rfl, ?_, H2.out⟩
        rw [labs_congr k (roundsJ (picked (prs ps) s ps.length) 0) (fun x => if x < k then x else 0) (fun x hx => by rw [if_pos hx]; rfl)]
        exact H1.out
      case round =>
        obtain ⟨r, hr, rfl, l1, l2⟩ := hrel.out
        obtain ⟨n0, n1⟩ := RES.out wr l2
        have H1 := hide l1
        have H2 := hide l2
        clear l1 l2 hrel
        by_cases hlt : r < k
        · obtain ⟨l, hl⟩ : ∃ l, l = roundsJ (picked (prs ps) s ps.length) r := ⟨_, rfl⟩
          have hlb : Hid (∀ x, x < k → l x ≤ 8) := by rw [hl]; exact rounds_lt _ _ g2
          have HL := hide hl
          rw [← hl] at H1
          clear hl
          go_wp2
          go_loopw [30] (fun v wr => Hid (Jo3R Wa g k ps.length (prs ps) s l v wr)) (fun v _ => ps.length - (intOf v).toNat)
          case atStart => exact ⟨0, by omega, rfl, H1.out, H2.out⟩
          case round =>
            obtain ⟨i, hi, rfl, l1, l2⟩ := hrel.out
            have L1 := hide l1
            have L2 := hide l2
            clear l1 l2 hrel n0 n1
            by_cases hlt3 : i < ps.length
            · obtain ⟨b, off, rfl, hb, c0, c1, c2, c3, c4, c5, c6⟩ := HPC.out i hlt3
              have hgg := gr_none GW.out L2.out
              obtain ⟨ea, eb, e1, e2, e3, e4⟩ := HE.out i hlt3
              have q0 := hgg.cell c0 (by simp)
              have q1 := hgg.cell c1 (by simp)
              have q2 := hgg.cell c2 (by simp)
              have q3 := hgg.cell c3 (by simp)
              have q4 := hgg.cell c4 (by simp)
              have q5 := hgg.cell c5 (by simp)
              have hps := picked_succ (prs ps) s i
              rw [prs_get hlt3, e1, e2, Int.toNat_natCast, Int.toNat_natCast] at hps
              rw [e1] at q1
              rw [e2] at q2
              have HPS := hide hps
              generalize ps[i].kind = z0 at q0
              generalize ps[i].c = z3 at q3
              generalize ps[i].d = z4 at q4
              generalize ps[i].v = z5 at q5
              have HGG := hide hgg
              clear c0 c1 c2 c3 c4 c5 c6 hgg e1 e2 hps HPC
              go_wp2_with fail
              refine (HCL.out i _ hlt3 (gr_alloc HGG.out _)).mono ?_
              rintro e w3 ⟨rfl, k3⟩
              have p1 := k3.cell (a := ⟨wr.heap.size, 1, none⟩) (v := .int .i64 (ea : Nat)) (by go_simp) (by simp)
              have p2 := k3.cell (a := ⟨wr.heap.size, 2, none⟩) (v := .int .i64 (eb : Nat)) (by go_simp) (by simp)
              have K3 := hide (gr_none (gr_alloc (gr_refl wr none) _) k3)
              have L3 := hide (L1.out.keep0 K3.out)
              have G3 := hide (gr_none L2.out K3.out)
              have hpb : wr.heap.size < w3.heap.size := by have := k3.size; simp at this; omega
              have hgb : g < wr.heap.size := L1.out.lt
              generalize wr.heap.size = gp at *
              clear k3 q0 q1 q2 q3 q4 q5 K3
              obtain ⟨l', hl'⟩ : ∃ l', l' = roundJ (picked (prs ps) s i) l := ⟨_, rfl⟩
              rw [← hl'] at L3
              have HL' := hide hl'
              have hb8 : ∀ x, x < k → l' x ≤ 8 := by rw [hl']; exact round_lt (E := []) _ l hlb.out
              clear hl'
              cases hsi : s i with
              | false =>
                rw [hsi] at HPS
                clear hsi hb8
                go_wp2
                go_roundw
                case rel =>
                  refine ⟨i + 1, by omega, by go_num, ?_, G3.out⟩
                  have := HPS.out
                  simp only [Bool.false_eq_true, if_false] at this
                  rw [this, ← HL'.out]
                  exact L3.out
                case measure => simp [intOf]; omega
              | true =>
                rw [hsi] at HPS
                have ca := L3.out.cell ea (by rw [labs_length]; exact e3)
                have cb := L3.out.cell eb (by rw [labs_length]; exact e4)
                rw [labs_get] at ca cb
                have la := hb8 ea e3
                have lb := hb8 eb e4
                obtain ⟨x, hx⟩ : ∃ x, x = l' ea := ⟨_, rfl⟩
                obtain ⟨y, hy⟩ : ∃ y, y = l' eb := ⟨_, rfl⟩
                rw [← hx] at ca la
                rw [← hy] at cb lb
                have hmin : min (x : Int) (y : Int) = ((min x y : Nat) : Int) := by omega
                obtain ⟨lo, hlo⟩ : ∃ lo, lo = min x y := ⟨_, rfl⟩
                rw [← hlo] at hmin
                have HLO : Hid (lo = min (l' ea) (l' eb)) := by show _ = _; rw [hlo, hx, hy]
                have hlo8 : lo ≤ 8 := by omega
                have hfa := L3.out.free ea
                have hfb := L3.out.free eb
                clear hsi hb8 hx hy hlo
                go_wp2
                go_region
                all_goals go_wp2
                all_goals clear hmin
                have fb1 := (L3.out.set ea ((lo : Nat) : Int) (.int .i64 (lo : Nat)) rfl).free eb
                have fa1 := (L3.out.set eb ((lo : Nat) : Int) (.int .i64 (lo : Nat)) rfl).free ea
                have cb1 := (L3.out.set ea ((lo : Nat) : Int) (.int .i64 (lo : Nat)) rfl).cell eb (by simp [labs_length]; exact e4)
                have ca1 := (L3.out.set eb ((lo : Nat) : Int) (.int .i64 (lo : Nat)) rfl).cell ea (by simp [labs_length]; exact e3)
                go_region
                all_goals go_wp2
                all_goals go_roundw
                all_goals first
                  | (simp [intOf]; omega)
                  | (refine ⟨i + 1, by omega, by go_num, ?_, ?_⟩
                     · have hps := HPS.out
                       simp only [if_true] at hps
                       rw [hps, roundJ_snoc, ← HL'.out]
                       first
                         | (rw [← labs_step k l' ea eb lo e3 e4 HLO.out]; exact ((L3.out.set ea ((lo : Nat) : Int) (.int .i64 (lo : Nat)) rfl).set eb ((lo : Nat) : Int) (.int .i64 (lo : Nat)) rfl))
                         | (rw [← labs_step' k l' ea eb lo e3 e4 HLO.out]; exact ((L3.out.set eb ((lo : Nat) : Int) (.int .i64 (lo : Nat)) rfl).set ea ((lo : Nat) : Int) (.int .i64 (lo : Nat)) rfl))
                     · repeat (first | exact G3.out | (refine gr_drewN ?_ _) | (refine gr_set ?_ _ _ hge)))
            · have hie : i = ps.length := by omega
              have HIE := hide hie
              clear hie HPC
              go_wp2
              go_roundw
              case rel =>
                refine ⟨r + 1, by omega, by go_num, ?_, L2.out⟩
                have h5 := L1.out
                rw [HIE.out, HL.out] at h5
                exact h5
              case measure => simp [intOf]; omega
        · obtain rfl : r = k := by omega
          clear HPC
          go_wp2
          go_ret
          refine ⟨g, rfl, ?_, gr_none GW.out H2.out, hgw⟩
          rw [labs_congr r (labF (picked (prs ps) s ps.length)) (roundsJ (picked (prs ps) s ps.length) r) (fun x hx => (rounds_all g1 (picked_lt HLT.out s (by rw [HPL.out]; exact Nat.le_refl _)) x hx).symm)]
          exact H1.out

set_option maxHeartbeats 4000000 in
set_option maxRecDepth 10000 in
theorem joined_wood (n : Nat) (pv : Value) (ps : List Prt) (s : Nat → Bool) (u1 : Value) (w : World) (hp : PartsAt w pv ps) (hG : Good (n : Int) ps n)
    (hcl : ∀ (i : Nat) (wx : World), i < ps.length → w.grownBy wx none → Calls Tryz.prog 89 #[.int .i64 (i : Nat), u1] wx fun e wy => e = .returned (.bool (s i)) ∧ wx.grownBy wy none) :
    Calls Tryz.prog 29 #[.agg #[.int .i64 (n : Nat), pv], .func (.func 89) #[] #[u1]] w fun e w' => JoinedE w n (picked (prs ps) s ps.length) e w' := by
  obtain ⟨ao, cap, rfl, h1, h2, h3⟩ := hp
  unfold maxLen at h2
  obtain ⟨_, g1, g2, g3, g4⟩ := hG
  have HE := hide g4
  have HPC := hide h3
  have HCL := hide hcl
  have HLT := hide (prs_lt g4)
  have HPL : Hid ((prs ps).length = ps.length) := by simp [prs, Hid]
  clear h3 g4 hcl
  go_enter Tryz.func29, Tryz.ntmps29
  go_wp2_with (at_make; refine wpList_make_g iv 3 0 8 _ rfl _ _ 42 rfl Tryz.underlying42 Tryz.infoInt rfl _ _ _ _ n rfl rfl (by omega) (by omega) (by omega) (by omega) ?_)
  intro w1 harr hgr
  obtain ⟨Wa, hWa⟩ : ∃ W, W = w.alloc (Obj.cells #[.int .i64 (n : Nat), .slice ao ps.length cap] 38) := ⟨_, rfl⟩
  rw [← hWa] at hgr
  have GW : Hid (w.grownBy Wa none) := by rw [hWa]; exact gr_alloc (gr_refl _ _) _
  have RES : Hid (∀ wr : World, Wa.grownBy wr none → wr.cell? ⟨w.heap.size, 0, none⟩ = some (.int .i64 (n : Nat)) ∧ wr.cell? ⟨w.heap.size, 1, none⟩ = some (.slice ao ps.length cap)) := by
    intro wr hg
    rw [hWa] at hg
    exact ⟨hg.cell (by go_simp) (by simp), hg.cell (by go_simp) (by simp)⟩
  have hWs : Wa.heap.size = w.heap.size + 1 := by rw [hWa]; simp
  obtain ⟨g, hg⟩ : ∃ g, g = w.heap.size + 1 := ⟨_, rfl⟩
  have hge : Wa.heap.size ≤ g := by omega
  have hgw : w.heap.size ≤ g := by omega
  rw [← hg] at harr ⊢
  have AR := hide harr
  have GR := hide hgr
  obtain ⟨n0, n1⟩ := RES.out w1 hgr
  clear harr hgr hWa hg hWs
  go_wp2
  go_loopw [15] (fun v wr => Hid (Jo1R Wa g n v wr)) (fun v _ => n - (intOf v).toNat)
  case atStart =>
    refine ⟨0, by omega, rfl, ?_, GR.out⟩
    have e : labs n (fun x => if x < 0 then x else 0) = List.replicate n 0 := by
      apply List.ext_getElem
      · simp [labs]
      · intro i h1 h2; simp [labs]
    rw [e]
    exact AR.out
  case round =>
    obtain ⟨k, hk, rfl, l1, l2⟩ := hrel.out
    by_cases hlt : k < n
    · have hfr := l1.free k
      obtain ⟨v0, hco⟩ : ∃ v, wr.cell? ⟨g, k, none⟩ = some v := ⟨_, l1.cell k (by rw [labs_length]; exact hlt)⟩
      have H1 := hide l1
      have H2 := hide l2
      clear l1 l2 hrel n0 n1
      go_wp2
      go_roundw
      case rel =>
        refine ⟨k + 1, by omega, by go_num, ?_, gr_set H2.out _ _ hge⟩
        have := H1.out.set k ((k : Nat) : Int) (.int .i64 (k : Nat)) rfl
        rw [labs_set n _ k k hlt] at this
        rw [labs_congr n (fun x => if x < k + 1 then x else 0) (fun x => if x = k then k else if x < k then x else 0)]
        · exact this
        · intro x hx
          by_cases e : x = k
          · subst e; simp
          · by_cases e2 : x < k
            · rw [if_pos (by omega), if_neg e, if_pos e2]
            · rw [if_neg (by omega), if_neg e, if_neg e2]
      case measure => simp [intOf]; omega
    · obtain rfl : k = n := by omega
      have H1 := hide l1
      have H2 := hide l2
      obtain ⟨n0, n1⟩ := RES.out wr l2
      clear l1 l2 hrel
      go_wp2
      go_loopw [25] (fun v wr => Hid (Jo2R Wa g k (picked (prs ps) s ps.length) v wr)) (fun v _ => k - (intOf v).toNat)
      case atStart =>
        refine ⟨0, by omega, rfl, ?_, H2.out⟩
        rw [labs_congr k (roundsJ (picked (prs ps) s ps.length) 0) (fun x => if x < k then x else 0) (fun x hx => by rw [if_pos hx]; rfl)]
        exact H1.out
      case round =>
        obtain ⟨r, hr, rfl, l1, l2⟩ := hrel.out
        obtain ⟨n0, n1⟩ := RES.out wr l2
        have H1 := hide l1
        have H2 := hide l2
        clear l1 l2 hrel
        by_cases hlt : r < k
        · obtain ⟨l, hl⟩ : ∃ l, l = roundsJ (picked (prs ps) s ps.length) r := ⟨_, rfl⟩
          have hlb : Hid (∀ x, x < k → l x ≤ 8) := by rw [hl]; exact rounds_lt _ _ g2
          have HL := hide hl
          rw [← hl] at H1
          clear hl
          go_wp2
          go_loopw [30] (fun v wr => Hid (Jo3R Wa g k ps.length (prs ps) s l v wr)) (fun v _ => ps.length - (intOf v).toNat)
          case atStart => exact ⟨0, by omega, rfl, H1.out, H2.out⟩
          case round =>
            obtain ⟨i, hi, rfl, l1, l2⟩ := hrel.out
            have L1 := hide l1
            have L2 := hide l2
            clear l1 l2 hrel n0 n1
            by_cases hlt3 : i < ps.length
            · obtain ⟨b, off, rfl, hb, c0, c1, c2, c3, c4, c5, c6⟩ := HPC.out i hlt3
              have hgg := gr_none GW.out L2.out
              obtain ⟨ea, eb, e1, e2, e3, e4⟩ := HE.out i hlt3
              have q0 := hgg.cell c0 (by simp)
              have q1 := hgg.cell c1 (by simp)
              have q2 := hgg.cell c2 (by simp)
              have q3 := hgg.cell c3 (by simp)
              have q4 := hgg.cell c4 (by simp)
              have q5 := hgg.cell c5 (by simp)
              have hps := picked_succ (prs ps) s i
              rw [prs_get hlt3, e1, e2, Int.toNat_natCast, Int.toNat_natCast] at hps
              rw [e1] at q1
              rw [e2] at q2
              have HPS := hide hps
              generalize ps[i].kind = z0 at q0
              generalize ps[i].c = z3 at q3
              generalize ps[i].d = z4 at q4
              generalize ps[i].v = z5 at q5
              have HGG := hide hgg
              clear c0 c1 c2 c3 c4 c5 c6 hgg e1 e2 hps HPC
              go_wp2_with fail
              refine (HCL.out i _ hlt3 (gr_alloc HGG.out _)).mono ?_
              rintro e w3 ⟨rfl, k3⟩
              have p1 := k3.cell (a := ⟨wr.heap.size, 1, none⟩) (v := .int .i64 (ea : Nat)) (by go_simp) (by simp)
              have p2 := k3.cell (a := ⟨wr.heap.size, 2, none⟩) (v := .int .i64 (eb : Nat)) (by go_simp) (by simp)
              have K3 := hide (gr_none (gr_alloc (gr_refl wr none) _) k3)
              have L3 := hide (L1.out.keep0 K3.out)
              have G3 := hide (gr_none L2.out K3.out)
              have hpb : wr.heap.size < w3.heap.size := by have := k3.size; simp at this; omega
              have hgb : g < wr.heap.size := L1.out.lt
              generalize wr.heap.size = gp at *
              clear k3 q0 q1 q2 q3 q4 q5 K3
              obtain ⟨l', hl'⟩ : ∃ l', l' = roundJ (picked (prs ps) s i) l := ⟨_, rfl⟩
              rw [← hl'] at L3
              have HL' := hide hl'
              have hb8 : ∀ x, x < k → l' x ≤ 8 := by rw [hl']; exact round_lt (E := []) _ l hlb.out
              clear hl'
              cases hsi : s i with
              | false =>
                rw [hsi] at HPS
                clear hsi hb8
                go_wp2
                go_roundw
                case rel =>
                  refine ⟨i + 1, by omega, by go_num, ?_, G3.out⟩
                  have := HPS.out
                  simp only [Bool.false_eq_true, if_false] at this
                  rw [this, ← HL'.out]
                  exact L3.out
                case measure => simp [intOf]; omega
              | true =>
                rw [hsi] at HPS
                have ca := L3.out.cell ea (by rw [labs_length]; exact e3)
                have cb := L3.out.cell eb (by rw [labs_length]; exact e4)
                rw [labs_get] at ca cb
                have la := hb8 ea e3
                have lb := hb8 eb e4
                obtain ⟨x, hx⟩ : ∃ x, x = l' ea := ⟨_, rfl⟩
                obtain ⟨y, hy⟩ : ∃ y, y = l' eb := ⟨_, rfl⟩
                rw [← hx] at ca la
                rw [← hy] at cb lb
                have hmin : min (x : Int) (y : Int) = ((min x y : Nat) : Int) := by omega
                obtain ⟨lo, hlo⟩ : ∃ lo, lo = min x y := ⟨_, rfl⟩
                rw [← hlo] at hmin
                have HLO : Hid (lo = min (l' ea) (l' eb)) := by show _ = _; rw [hlo, hx, hy]
                have hlo8 : lo ≤ 8 := by omega
                have hfa := L3.out.free ea
                have hfb := L3.out.free eb
                clear hsi hb8 hx hy hlo
                go_wp2
                go_region
                all_goals go_wp2
                all_goals clear hmin
                have fb1 := (L3.out.set ea ((lo : Nat) : Int) (.int .i64 (lo : Nat)) rfl).free eb
                have fa1 := (L3.out.set eb ((lo : Nat) : Int) (.int .i64 (lo : Nat)) rfl).free ea
                have cb1 := (L3.out.set ea ((lo : Nat) : Int) (.int .i64 (lo : Nat)) rfl).cell eb (by simp [labs_length]; exact e4)
                have ca1 := (L3.out.set eb ((lo : Nat) : Int) (.int .i64 (lo : Nat)) rfl).cell ea (by simp [labs_length]; exact e3)
                go_region
                all_goals go_wp2
                all_goals go_roundw
                all_goals first
                  | (simp [intOf]; omega)
                  | (refine ⟨i + 1, by omega, by go_num, ?_, ?_⟩
                     · have hps := HPS.out
                       simp only [if_true] at hps
                       rw [hps, roundJ_snoc, ← HL'.out]
                       first
                         | (rw [← labs_step k l' ea eb lo e3 e4 HLO.out]; exact ((L3.out.set ea ((lo : Nat) : Int) (.int .i64 (lo : Nat)) rfl).set eb ((lo : Nat) : Int) (.int .i64 (lo : Nat)) rfl))
                         | (rw [← labs_step' k l' ea eb lo e3 e4 HLO.out]; exact ((L3.out.set eb ((lo : Nat) : Int) (.int .i64 (lo : Nat)) rfl).set ea ((lo : Nat) : Int) (.int .i64 (lo : Nat)) rfl))
                     · repeat (first | exact G3.out | (refine gr_drewN ?_ _) | (refine gr_set ?_ _ _ hge)))
            · have hie : i = ps.length := by omega
              have HIE := hide hie
              clear hie HPC
              go_wp2
              go_roundw
              case rel =>
                refine ⟨r + 1, by omega, by go_num, ?_, L2.out⟩
                have h5 := L1.out
                rw [HIE.out, HL.out] at h5
                exact h5
              case measure => simp [intOf]; omega
        · obtain rfl : r = k := by omega
          clear HPC
          go_wp2
          go_ret
          refine ⟨g, rfl, ?_, gr_none GW.out H2.out, hgw⟩
          rw [labs_congr r (labF (picked (prs ps) s ps.length)) (roundsJ (picked (prs ps) s ps.length) r) (fun x hx => (rounds_all g1 (picked_lt HLT.out s (by rw [HPL.out]; exact Nat.le_refl _)) x hx).symm)]
          exact H1.out

set_option maxHeartbeats 4000000 in
set_option maxRecDepth 10000 in
theorem joined_cut (n : Nat) (pv : Value) (ps : List Prt) (s : Nat → Bool) (u1 u2 : Value) (w : World) (hp : PartsAt w pv ps) (hG : Good (n : Int) ps n)
    (hcl : ∀ (i : Nat) (wx : World), i < ps.length → w.grownBy wx none → Calls Tryz.prog 90 #[.int .i64 (i : Nat), u1, u2] wx fun e wy => e = .returned (.bool (s i)) ∧ wx.grownBy wy none) :
    Calls Tryz.prog 29 #[.agg #[.int .i64 (n : Nat), pv], .func (.func 90) #[] #[u1, u2]] w fun e w' => JoinedE w n (picked (prs ps) s ps.length) e w' := by
  obtain ⟨ao, cap, rfl, h1, h2, h3⟩ := hp
  unfold maxLen at h2
  obtain ⟨_, g1, g2, g3, g4⟩ := hG
  have HE := hide g4
  have HPC := hide h3
  have HCL := hide hcl
  have HLT := hide (prs_lt g4)
  have HPL : Hid ((prs ps).length = ps.length) := by simp [prs, Hid]
  clear h3 g4 hcl
  go_enter Tryz.func29, Tryz.ntmps29
  go_wp2_with (at_make; refine wpList_make_g iv 3 0 8 _ rfl _ _ 42 rfl Tryz.underlying42 Tryz.infoInt rfl _ _ _ _ n rfl rfl (by omega) (by omega) (by omega) (by omega) ?_)
  intro w1 harr hgr
  obtain ⟨Wa, hWa⟩ : ∃ W, W = w.alloc (Obj.cells #[.int .i64 (n : Nat), .slice ao ps.length cap] 38) := ⟨_, rfl⟩
  rw [← hWa] at hgr
  have GW : Hid (w.grownBy Wa none) := by rw [hWa]; exact gr_alloc (gr_refl _ _) _
  have RES : Hid (∀ wr : World, Wa.grownBy wr none → wr.cell? ⟨w.heap.size, 0, none⟩ = some (.int .i64 (n : Nat)) ∧ wr.cell? ⟨w.heap.size, 1, none⟩ = some (.slice ao ps.length cap)) := by
    intro wr hg
    rw [hWa] at hg
    exact ⟨hg.cell (by go_simp) (by simp), hg.cell (by go_simp) (by simp)⟩
  have hWs : Wa.heap.size = w.heap.size + 1 := by rw [hWa]; simp
  obtain ⟨g, hg⟩ : ∃ g, g = w.heap.size + 1 := ⟨_, rfl⟩
  have hge : Wa.heap.size ≤ g := by omega
  have hgw : w.heap.size ≤ g := by omega
  rw [← hg] at harr ⊢
  have AR := hide harr
  have GR := hide hgr
  obtain ⟨n0, n1⟩ := RES.out w1 hgr
  clear harr hgr hWa hg hWs
  go_wp2
  go_loopw [15] (fun v wr => Hid (Jo1R Wa g n v wr)) (fun v _ => n - (intOf v).toNat)
  case atStart =>
    refine ⟨0, by omega, rfl, ?_, GR.out⟩
    have e : labs n (fun x => if x < 0 then x else 0) = List.replicate n 0 := by
      apply List.ext_getElem
      · simp [labs]
      · intro i h1 h2; simp [labs]
    rw [e]
    exact AR.out
  case round =>
    obtain ⟨k, hk, rfl, l1, l2⟩ := hrel.out
    by_cases hlt : k < n
    · have hfr := l1.free k
      obtain ⟨v0, hco⟩ : ∃ v, wr.cell? ⟨g, k, none⟩ = some v := ⟨_, l1.cell k (by rw [labs_length]; exact hlt)⟩
      have H1 := hide l1
      have H2 := hide l2
      clear l1 l2 hrel n0 n1
      go_wp2
      go_roundw
      case rel =>
        refine ⟨k + 1, by omega, by go_num, ?_, gr_set H2.out _ _ hge⟩
        have := H1.out.set k ((k : Nat) : Int) (.int .i64 (k : Nat)) rfl
        rw [labs_set n _ k k hlt] at this
        rw [labs_congr n (fun x => if x < k + 1 then x else 0) (fun x => if x = k then k else if x < k then x else 0)]
        · exact this
        · intro x hx
          by_cases e : x = k
          · subst e; simp
          · by_cases e2 : x < k
            · rw [if_pos (by omega), if_neg e, if_pos e2]
            · rw [if_neg (by omega), if_neg e, if_neg e2]
      case measure => simp [intOf]; omega
    · obtain rfl : k = n := by omega
      have H1 := hide l1
      have H2 := hide l2
      obtain ⟨n0, n1⟩ := RES.out wr l2
      clear l1 l2 hrel
      go_wp2
      go_loopw [25] (fun v wr => Hid (Jo2R Wa g k (picked (prs ps) s ps.length) v wr)) (fun v _ => k - (intOf v).toNat)
      case atStart =>
        refine ⟨0, by omega, rfl, ?_, H2.out⟩
        rw [labs_congr k (roundsJ (picked (prs ps) s ps.length) 0) (fun x => if x < k then x else 0) (fun x hx => by rw [if_pos hx]; rfl)]
        exact H1.out
      case round =>
        obtain ⟨r, hr, rfl, l1, l2⟩ := hrel.out
        obtain ⟨n0, n1⟩ := RES.out wr l2
        have H1 := hide l1
        have H2 := hide l2
        clear l1 l2 hrel
        by_cases hlt : r < k
        · obtain ⟨l, hl⟩ : ∃ l, l = roundsJ (picked (prs ps) s ps.length) r := ⟨_, rfl⟩
          have hlb : Hid (∀ x, x < k → l x ≤ 8) := by rw [hl]; exact rounds_lt _ _ g2
          have HL := hide hl
          rw [← hl] at H1
          clear hl
          go_wp2
          go_loopw [30] (fun v wr => Hid (Jo3R Wa g k ps.length (prs ps) s l v wr)) (fun v _ => ps.length - (intOf v).toNat)
          case atStart => exact ⟨0, by omega, rfl, H1.out, H2.out⟩
          case round =>
            obtain ⟨i, hi, rfl, l1, l2⟩ := hrel.out
            have L1 := hide l1
            have L2 := hide l2
            clear l1 l2 hrel n0 n1
            by_cases hlt3 : i < ps.length
            · obtain ⟨b, off, rfl, hb, c0, c1, c2, c3, c4, c5, c6⟩ := HPC.out i hlt3
              have hgg := gr_none GW.out L2.out
              obtain ⟨ea, eb, e1, e2, e3, e4⟩ := HE.out i hlt3
              have q0 := hgg.cell c0 (by simp)
              have q1 := hgg.cell c1 (by simp)
              have q2 := hgg.cell c2 (by simp)
              have q3 := hgg.cell c3 (by simp)
              have q4 := hgg.cell c4 (by simp)
              have q5 := hgg.cell c5 (by simp)
              have hps := picked_succ (prs ps) s i
              rw [prs_get hlt3, e1, e2, Int.toNat_natCast, Int.toNat_natCast] at hps
              rw [e1] at q1
              rw [e2] at q2
              have HPS := hide hps
              generalize ps[i].kind = z0 at q0
              generalize ps[i].c = z3 at q3
              generalize ps[i].d = z4 at q4
              generalize ps[i].v = z5 at q5
              have HGG := hide hgg
              clear c0 c1 c2 c3 c4 c5 c6 hgg e1 e2 hps HPC
              go_wp2_with fail
              refine (HCL.out i _ hlt3 (gr_alloc HGG.out _)).mono ?_
              rintro e w3 ⟨rfl, k3⟩
              have p1 := k3.cell (a := ⟨wr.heap.size, 1, none⟩) (v := .int .i64 (ea : Nat)) (by go_simp) (by simp)
              have p2 := k3.cell (a := ⟨wr.heap.size, 2, none⟩) (v := .int .i64 (eb : Nat)) (by go_simp) (by simp)
              have K3 := hide (gr_none (gr_alloc (gr_refl wr none) _) k3)
              have L3 := hide (L1.out.keep0 K3.out)
              have G3 := hide (gr_none L2.out K3.out)
              have hpb : wr.heap.size < w3.heap.size := by have := k3.size; simp at this; omega
              have hgb : g < wr.heap.size := L1.out.lt
              generalize wr.heap.size = gp at *
              clear k3 q0 q1 q2 q3 q4 q5 K3
              obtain ⟨l', hl'⟩ : ∃ l', l' = roundJ (picked (prs ps) s i) l := ⟨_, rfl⟩
              rw [← hl'] at L3
              have HL' := hide hl'
              have hb8 : ∀ x, x < k → l' x ≤ 8 := by rw [hl']; exact round_lt (E := []) _ l hlb.out
              clear hl'
              cases hsi : s i with
              | false =>
                rw [hsi] at HPS
                clear hsi hb8
                go_wp2
                go_roundw
                case rel =>
                  refine ⟨i + 1, by omega, by go_num, ?_, G3.out⟩
                  have := HPS.out
                  simp only [Bool.false_eq_true, if_false] at this
                  rw [this, ← HL'.out]
                  exact L3.out
                case measure => simp [intOf]; omega
              | true =>
                rw [hsi] at HPS
                have ca := L3.out.cell ea (by rw [labs_length]; exact e3)
                have cb := L3.out.cell eb (by rw [labs_length]; exact e4)
                rw [labs_get] at ca cb
                have la := hb8 ea e3
                have lb := hb8 eb e4
                obtain ⟨x, hx⟩ : ∃ x, x = l' ea := ⟨_, rfl⟩
                obtain ⟨y, hy⟩ : ∃ y, y = l' eb := ⟨_, rfl⟩
                rw [← hx] at ca la
                rw [← hy] at cb lb
                have hmin : min (x : Int) (y : Int) = ((min x y : Nat) : Int) := by omega
                obtain ⟨lo, hlo⟩ : ∃ lo, lo = min x y := ⟨_, rfl⟩
                rw [← hlo] at hmin
                have HLO : Hid (lo = min (l' ea) (l' eb)) := by show _ = _; rw [hlo, hx, hy]
                have hlo8 : lo ≤ 8 := by omega
                have hfa := L3.out.free ea
                have hfb := L3.out.free eb
                clear hsi hb8 hx hy hlo
                go_wp2
                go_region
                all_goals go_wp2
                all_goals clear hmin
                have fb1 := (L3.out.set ea ((lo : Nat) : Int) (.int .i64 (lo : Nat)) rfl).free eb
                have fa1 := (L3.out.set eb ((lo : Nat) : Int) (.int .i64 (lo : Nat)) rfl).free ea
                have cb1 := (L3.out.set ea ((lo : Nat) : Int) (.int .i64 (lo : Nat)) rfl).cell eb (by simp [labs_length]; exact e4)
                have ca1 := (L3.out.set eb ((lo : Nat) : Int) (.int .i64 (lo : Nat)) rfl).cell ea (by simp [labs_length]; exact e3)
                go_region
                all_goals go_wp2
                all_goals go_roundw
                all_goals first
                  | (simp [intOf]; omega)
                  | (refine ⟨i + 1, by omega, by go_num, ?_, ?_⟩
                     · have hps := HPS.out
                       simp only [if_true] at hps
                       rw [hps, roundJ_snoc, ← HL'.out]
                       first
                         | (rw [← labs_step k l' ea eb lo e3 e4 HLO.out]; exact ((L3.out.set ea ((lo : Nat) : Int) (.int .i64 (lo : Nat)) rfl).set eb ((lo : Nat) : Int) (.int .i64 (lo : Nat)) rfl))
                         | (rw [← labs_step' k l' ea eb lo e3 e4 HLO.out]; exact ((L3.out.set eb ((lo : Nat) : Int) (.int .i64 (lo : Nat)) rfl).set ea ((lo : Nat) : Int) (.int .i64 (lo : Nat)) rfl))
                     · repeat (first | exact G3.out | (refine gr_drewN ?_ _) | (refine gr_set ?_ _ _ hge)))
            · have hie : i = ps.length := by omega
              have HIE := hide hie
              clear hie HPC
              go_wp2
              go_roundw
              case rel =>
                refine ⟨r + 1, by omega, by go_num, ?_, L2.out⟩
                have h5 := L1.out
                rw [HIE.out, HL.out] at h5
                exact h5
              case measure => simp [intOf]; omega
        · obtain rfl : r = k := by omega
          clear HPC
          go_wp2
          go_ret
          refine ⟨g, rfl, ?_, gr_none GW.out H2.out, hgw⟩
          rw [labs_congr r (labF (picked (prs ps) s ps.length)) (roundsJ (picked (prs ps) s ps.length) r) (fun x hx => (rounds_all g1 (picked_lt HLT.out s (by rw [HPL.out]; exact Nat.le_refl _)) x hx).symm)]
          exact H1.out

end Go.Proofs.YtfhamfgcjdhmdaaGreatDoor
