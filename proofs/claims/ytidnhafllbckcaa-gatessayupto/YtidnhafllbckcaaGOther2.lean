/- voltaiclaw: other. -/
import Derived.Test.YtidnhafllbckcaaGOther
namespace Go.Proofs.Ytidnhafllbckcaa
open Go.RowKit
set_option linter.unusedVariables false
set_option linter.unusedSimpArgs false

def OthR (w : World) (n : Nat) (l : List (Ex n)) (pc : Array Value) (lv iv : Value) (wr : World) : Prop :=
  ∃ i : Nat, i ≤ l.length ∧ iv = .int .i64 (i : Nat) ∧ WayO wr (w.heap.size + 2) lv n ((l.take i).map (dualE n)) ∧ BoxC wr w.heap.size pc ∧ BoxC wr (w.heap.size + 1) #[.int .i64 0, .int .i64 0, .bool false, .slice none 0 0] ∧ w.grownBy wr none

set_option maxHeartbeats 8000000 in
set_option maxRecDepth 10000 in
theorem other_at (k : Int) : ∀ (n : Nat) (t : Ex n) (c0 c1 c2 c3 : Value) (w : World), WayC w n c0 c1 c2 c3 t → FineE k n t → BndE n t →
    Calls Try.prog 15 #[.agg #[c0, c1, c2, c3]] w fun e w' => MadeE w n (dualE n t) e w' := by
  intro n
  induction n with
  | zero => intro t; exact t.elim
  | succ n ih =>
    intro t c0 c1 c2 c3 w hw hf hbd
    obtain ⟨kd, i, b, l, ao, cap, rfl, rfl, rfl, rfl, rfl, h1, h2, h3⟩ := hw.open
    have HR := hide h3
    have IH := hide ih
    obtain ⟨hw0, hf0⟩ := hf
    obtain ⟨hb0, hb1⟩ := hbd
    have HF := hide hf0
    have HB := hide hb1
    unfold maxLen at h2
    clear hw h3 ih hf0 hb1
    dsimp only at hb0 hw0
    rcases wrong_zero hw0 with ⟨rfl, hl, hi0, hi1⟩ | ⟨hk, hl, rfl, rfl⟩
    · obtain rfl : l = [] := List.length_eq_zero_iff.1 hl
      have hd : dualE (n + 1) (1, i, b, []) = (1, i, (!b), ([] : List (Ex n)).map (dualE n)) := dualE_one n (1, i, b, []) rfl
      rw [hd]
      obtain ⟨W0, hW0⟩ : ∃ W0, W0 = ((w.alloc (Obj.cells #[.int .i64 1, .int .i64 i, .bool (!b), .slice ao 0 cap] 24)).alloc (Obj.cells #[.int .i64 0, .int .i64 0, .bool false, .slice none 0 0] 24)).alloc (Obj.cells #[.int .i64 0, .int .i64 1, .int .i64 3, .int .i64 2] 3) := ⟨_, rfl⟩
      have GW0 := hide (show w.grownBy W0 none by rw [hW0]; exact gr_alloc (gr_alloc (gr_alloc (gr_refl _ _) _) _) _)
      have BP0 := hide (show BoxC W0 w.heap.size #[.int .i64 1, .int .i64 i, .bool (!b), .slice ao 0 cap] by rw [hW0]; exact (boxNew _ _ _).keep0 (gr_alloc (gr_alloc (gr_refl _ _) _) _))
      have BR0 := hide (show BoxC W0 (w.heap.size + 1) #[.int .i64 0, .int .i64 0, .bool false, .slice none 0 0] by rw [hW0]; exact (boxNew' _ _ _ _ (by simp)).keep0 (gr_alloc (gr_refl _ _) _))
      have ST : Hid (OthR w n ([] : List (Ex n)) #[.int .i64 1, .int .i64 i, .bool (!b), .slice ao 0 cap] (.slice none 0 0) (.int .i64 0) W0) := ⟨0, Nat.zero_le _, rfl, by simpa using WayO.nil W0 (w.heap.size + 2) n, BP0.out, BR0.out, GW0.out⟩
      clear hd hw0
      go_enter Try.func15, Try.ntmps15
      go_wp2
      rw [← hW0]
      clear hW0 GW0 BP0 BR0
      go_loopw [3, 22] (fun lv iv wr => Hid (OthR w n ([] : List (Ex n)) #[.int .i64 1, .int .i64 i, .bool (!b), .slice ao 0 cap] lv iv wr)) (fun _ iv _ => (([] : List (Ex n)) : List (Ex n)).length - (intOf iv).toNat)
      case atStart => exact ST.out
      case round =>
        clear ST
        obtain ⟨j, hj, rfl, ho, hbp, hbr, hgr⟩ := hrel.out
        obtain ⟨loo, lcc, rfl⟩ := ho.shape
        have HO := hide ho
        have HBP := hide hbp
        have HBR := hide hbr
        have HGR := hide hgr
        have hps := hbr.lt
        clear hrel ho hbp hbr hgr
        by_cases hlt : j < (([] : List (Ex n)) : List (Ex n)).length
        · exact absurd hlt (Nat.not_lt_zero _)
        · obtain rfl : j = (([] : List (Ex n)) : List (Ex n)).length := by omega
          have hlm : ((([] : List (Ex n)).take (([] : List (Ex n)) : List (Ex n)).length).map (dualE n)) = ([] : List (Ex n)).map (dualE n) := by rw [List.take_length]
          rw [hlm] at HO ⊢
          obtain ⟨p0, p1, p2, p3⟩ := HBP.out.c4
          obtain ⟨pf0, pf1, pf2, pf3⟩ := HBP.out.f4
          obtain ⟨r0, r1, r2, r3⟩ := HBR.out.c4
          obtain ⟨rf0, rf1, rf2, rf3⟩ := HBR.out.f4
          have HS1 := hide (gr_set1 wr w.heap.size 3 (.slice loo (([] : List (Ex n)).map (dualE n)).length lcc))
          have HS4 := hide (gr_set4 (wr.setCell ⟨w.heap.size, 3, none⟩ (.slice loo (([] : List (Ex n)).map (dualE n)).length lcc)) (w.heap.size + 1) 0 (.int .i64 1) (.int .i64 i) (.bool (!b)) (.slice loo (([] : List (Ex n)).map (dualE n)).length lcc))
          obtain ⟨ll, hll⟩ : ∃ ll, ll = (([] : List (Ex n)).map (dualE n)).length := ⟨_, rfl⟩
          have HLL := hide hll
          rw [← hll]
          rw [← hll] at HS1 HS4
          have HW2 : Hid (WayP wr (fun b => w.heap.size + 2 ≤ b) (n + 1) (.int .i64 1) (.int .i64 i) (.bool (!b)) (.slice loo ll lcc) (1, i, (!b), ([] : List (Ex n)).map (dualE n))) := by
            rw [HLL.out]
            exact HO.out.read
          clear hll hlm HO
          go_wp2
          refine bodyPost_ret (v := .agg #[.int .i64 1, .int .i64 i, .bool (!b), .slice loo ll lcc]) (by simp [results, Try.results15, go_sem, r0, r1, r2, r3]) rfl ?_
          exact ⟨_, _, _, _, rfl, (HW2.out.keep (ok' := fun b => w.heap.size + 2 ≤ b) HS1.out (fun b _ hb => ⟨fun e => by have := Option.some.inj e; omega, hb⟩)).keep (ok' := fun b => w.heap.size ≤ b) HS4.out (fun b _ hb => ⟨fun e => by have := Option.some.inj e; omega, by omega⟩), gr_in (gr_in HGR.out HS1.out (by omega)) HS4.out (by omega)⟩
    · rcases hk with rfl | rfl
      · skip
        have hd : dualE (n + 1) (2, 0, false, l) = (3, 0, false, l.map (dualE n)) := dualE_two n (2, 0, false, l) (by show (2 : Int) ≠ 1; decide)
        rw [hd]
        obtain ⟨W0, hW0⟩ : ∃ W0, W0 = ((w.alloc (Obj.cells #[.int .i64 3, .int .i64 0, .bool false, .slice ao l.length cap] 24)).alloc (Obj.cells #[.int .i64 0, .int .i64 0, .bool false, .slice none 0 0] 24)).alloc (Obj.cells #[.int .i64 0, .int .i64 1, .int .i64 3, .int .i64 2] 3) := ⟨_, rfl⟩
        have GW0 := hide (show w.grownBy W0 none by rw [hW0]; exact gr_alloc (gr_alloc (gr_alloc (gr_refl _ _) _) _) _)
        have BP0 := hide (show BoxC W0 w.heap.size #[.int .i64 3, .int .i64 0, .bool false, .slice ao l.length cap] by rw [hW0]; exact (boxNew _ _ _).keep0 (gr_alloc (gr_alloc (gr_refl _ _) _) _))
        have BR0 := hide (show BoxC W0 (w.heap.size + 1) #[.int .i64 0, .int .i64 0, .bool false, .slice none 0 0] by rw [hW0]; exact (boxNew' _ _ _ _ (by simp)).keep0 (gr_alloc (gr_refl _ _) _))
        have ST : Hid (OthR w n l #[.int .i64 3, .int .i64 0, .bool false, .slice ao l.length cap] (.slice none 0 0) (.int .i64 0) W0) := ⟨0, Nat.zero_le _, rfl, by simpa using WayO.nil W0 (w.heap.size + 2) n, BP0.out, BR0.out, GW0.out⟩
        clear hd hw0
        go_enter Try.func15, Try.ntmps15
        go_wp2
        rw [← hW0]
        clear hW0 GW0 BP0 BR0
        go_loopw [3, 22] (fun lv iv wr => Hid (OthR w n l #[.int .i64 3, .int .i64 0, .bool false, .slice ao l.length cap] lv iv wr)) (fun _ iv _ => (l : List (Ex n)).length - (intOf iv).toNat)
        case atStart => exact ST.out
        case round =>
          clear ST
          obtain ⟨j, hj, rfl, ho, hbp, hbr, hgr⟩ := hrel.out
          obtain ⟨loo, lcc, rfl⟩ := ho.shape
          have HO := hide ho
          have HBP := hide hbp
          have HBR := hide hbr
          have HGR := hide hgr
          have hps := hbr.lt
          clear hrel ho hbp hbr hgr
          by_cases hlt : j < (l : List (Ex n)).length
          · obtain ⟨bb, off, rfl, hb, d0, d1, d2, d3, k0, k1, k2, k3, hk2⟩ := HR.out j hlt
            have q0 := gr_cell HGR.out k0
            have q1 := gr_cell HGR.out k1
            have q2 := gr_cell HGR.out k2
            have q3 := gr_cell HGR.out k3
            have HK := hide (hk2.keep HGR.out)
            obtain ⟨kd2, i2, b2, ao2, len2, cap2, rfl, rfl, rfl, rfl⟩ := hk2.cells
            have htl : ((l.take j).map (dualE n)).length = j := by simp; omega
            have hl2 : (l.take (j + 1)).map (dualE n) = (l.take j).map (dualE n) ++ [dualE n (l[j])] := by
              rw [List.take_succ_eq_append_getElem hlt, List.map_append]
              rfl
            obtain ⟨ls, hls⟩ : ∃ ls, ls = (l.take j).map (dualE n) := ⟨_, rfl⟩
            rw [← hls] at HO htl hl2 ⊢
            have HL2 := hide hl2
            have hlsl : ls.length ≤ 100000 := by omega
            have HTL := hide htl
            clear k0 k1 k2 k3 hk2 hl2 hls htl
            go_wp2_with (first | (go_at_call 15; refine (IH.out (l[j]) _ _ _ _ _ (HK.out.keep (gr_alloc (gr_refl _ _) _)) (HF.out _ (List.getElem_mem hlt)) (HB.out _ (List.getElem_mem hlt))).mono ?_; rintro e w2 ⟨a0, a1, a2, a3, rfl, ha, g2⟩; obtain ⟨ak, ai, ab, aao, alen, acap, rfl, rfl, rfl, rfl⟩ := ha.way.cells; have HA := hide ha; have HG2 := hide g2; clear g2 ha) | (at_builtin; refine wpList_append_way _ rfl _ _ 22 rfl (w.heap.size + 2) Try.underlying22 Try.infoWay _ n ls rfl (((HO.out.keep (gr_alloc (gr_refl _ none) _) (fun _ e => by cases e)).keep HG2.out (fun _ e => by cases e)).keep (gr_alloc (gr_refl _ none) _) (fun _ e => by cases e)) w2.heap.size ak ai ab aao alen acap (dualE n (l[j])) rfl (boxNew _ _ _) ?_ hlsl ?_ ?_))
            · exact (HA.out.keep (ok' := fun b => w.heap.size + 2 ≤ b ∧ some b ≠ (Value.slice loo ls.length lcc).ownBlock) (gr_alloc (gr_refl _ none) _) (fun b _ hb => ⟨by simp, by have h : (wr.alloc (Obj.cells #[.int .i64 kd2, .int .i64 i2, .bool b2, .slice ao2 len2 cap2] 24)).heap.size ≤ b := hb; simp at h; omega, fun e => by
                obtain ⟨xs, hx1, _⟩ := HO.out.own
                have h5 := (hx1.lt b e.symm).2
                have h : (wr.alloc (Obj.cells #[.int .i64 kd2, .int .i64 i2, .bool b2, .slice ao2 len2 cap2] 24)).heap.size ≤ b := hb
                simp at h
                omega⟩))
            · have := HG2.out.size
              simp at this ⊢
              omega
            · intro ao3 cap3 w3 ho3 g3
              have hown := ((HO.out.keep (gr_alloc (gr_refl wr none) (Obj.cells #[.int .i64 kd2, .int .i64 i2, .bool b2, .slice ao2 len2 cap2] 24)) (fun _ e => by cases e)).keep HG2.out (fun _ e => by cases e)).keep (gr_alloc (gr_refl w2 none) (Obj.cells #[.int .i64 ak, .int .i64 ai, .bool ab, .slice aao alen acap] 24)) (fun _ e => by cases e)
              have gB : wr.grownBy (w2.alloc (Obj.cells #[.int .i64 ak, .int .i64 ai, .bool ab, .slice aao alen acap] 24)) none := gr_alloc (gr_none (gr_alloc (gr_refl wr none) _) HG2.out) _
              have HG3 := hide (hown.gr (gr_none HGR.out gB) g3 (by omega))
              have HBP3 := hide ((HBP.out.keep0 gB).keepO g3 (hown.ne (by omega)))
              have HBR3 := hide ((HBR.out.keep0 gB).keepO g3 (hown.ne (by omega)))
              have HO3 := hide ho3
              clear ho3 g3 hown gB
              go_wp2
              go_roundw
              case rel =>
                refine ⟨j + 1, by omega, by go_num, ?_, HBP3.out, HBR3.out, HG3.out⟩
                rw [HL2.out]
                exact HO3.out
              case measure => simp [intOf]; omega
          · obtain rfl : j = (l : List (Ex n)).length := by omega
            have hlm : ((l.take (l : List (Ex n)).length).map (dualE n)) = l.map (dualE n) := by rw [List.take_length]
            rw [hlm] at HO ⊢
            obtain ⟨p0, p1, p2, p3⟩ := HBP.out.c4
            obtain ⟨pf0, pf1, pf2, pf3⟩ := HBP.out.f4
            obtain ⟨r0, r1, r2, r3⟩ := HBR.out.c4
            obtain ⟨rf0, rf1, rf2, rf3⟩ := HBR.out.f4
            have HS1 := hide (gr_set1 wr w.heap.size 3 (.slice loo (l.map (dualE n)).length lcc))
            have HS4 := hide (gr_set4 (wr.setCell ⟨w.heap.size, 3, none⟩ (.slice loo (l.map (dualE n)).length lcc)) (w.heap.size + 1) 0 (.int .i64 3) (.int .i64 0) (.bool false) (.slice loo (l.map (dualE n)).length lcc))
            obtain ⟨ll, hll⟩ : ∃ ll, ll = (l.map (dualE n)).length := ⟨_, rfl⟩
            have HLL := hide hll
            rw [← hll]
            rw [← hll] at HS1 HS4
            have HW2 : Hid (WayP wr (fun b => w.heap.size + 2 ≤ b) (n + 1) (.int .i64 3) (.int .i64 0) (.bool false) (.slice loo ll lcc) (3, 0, false, l.map (dualE n))) := by
              rw [HLL.out]
              exact HO.out.read
            clear hll hlm HO
            go_wp2
            refine bodyPost_ret (v := .agg #[.int .i64 3, .int .i64 0, .bool false, .slice loo ll lcc]) (by simp [results, Try.results15, go_sem, r0, r1, r2, r3]) rfl ?_
            exact ⟨_, _, _, _, rfl, (HW2.out.keep (ok' := fun b => w.heap.size + 2 ≤ b) HS1.out (fun b _ hb => ⟨fun e => by have := Option.some.inj e; omega, hb⟩)).keep (ok' := fun b => w.heap.size ≤ b) HS4.out (fun b _ hb => ⟨fun e => by have := Option.some.inj e; omega, by omega⟩), gr_in (gr_in HGR.out HS1.out (by omega)) HS4.out (by omega)⟩
      · skip
        have hd : dualE (n + 1) (3, 0, false, l) = (2, 0, false, l.map (dualE n)) := dualE_two n (3, 0, false, l) (by show (3 : Int) ≠ 1; decide)
        rw [hd]
        obtain ⟨W0, hW0⟩ : ∃ W0, W0 = ((w.alloc (Obj.cells #[.int .i64 2, .int .i64 0, .bool false, .slice ao l.length cap] 24)).alloc (Obj.cells #[.int .i64 0, .int .i64 0, .bool false, .slice none 0 0] 24)).alloc (Obj.cells #[.int .i64 0, .int .i64 1, .int .i64 3, .int .i64 2] 3) := ⟨_, rfl⟩
        have GW0 := hide (show w.grownBy W0 none by rw [hW0]; exact gr_alloc (gr_alloc (gr_alloc (gr_refl _ _) _) _) _)
        have BP0 := hide (show BoxC W0 w.heap.size #[.int .i64 2, .int .i64 0, .bool false, .slice ao l.length cap] by rw [hW0]; exact (boxNew _ _ _).keep0 (gr_alloc (gr_alloc (gr_refl _ _) _) _))
        have BR0 := hide (show BoxC W0 (w.heap.size + 1) #[.int .i64 0, .int .i64 0, .bool false, .slice none 0 0] by rw [hW0]; exact (boxNew' _ _ _ _ (by simp)).keep0 (gr_alloc (gr_refl _ _) _))
        have ST : Hid (OthR w n l #[.int .i64 2, .int .i64 0, .bool false, .slice ao l.length cap] (.slice none 0 0) (.int .i64 0) W0) := ⟨0, Nat.zero_le _, rfl, by simpa using WayO.nil W0 (w.heap.size + 2) n, BP0.out, BR0.out, GW0.out⟩
        clear hd hw0
        go_enter Try.func15, Try.ntmps15
        go_wp2
        rw [← hW0]
        clear hW0 GW0 BP0 BR0
        go_loopw [3, 22] (fun lv iv wr => Hid (OthR w n l #[.int .i64 2, .int .i64 0, .bool false, .slice ao l.length cap] lv iv wr)) (fun _ iv _ => (l : List (Ex n)).length - (intOf iv).toNat)
        case atStart => exact ST.out
        case round =>
          clear ST
          obtain ⟨j, hj, rfl, ho, hbp, hbr, hgr⟩ := hrel.out
          obtain ⟨loo, lcc, rfl⟩ := ho.shape
          have HO := hide ho
          have HBP := hide hbp
          have HBR := hide hbr
          have HGR := hide hgr
          have hps := hbr.lt
          clear hrel ho hbp hbr hgr
          by_cases hlt : j < (l : List (Ex n)).length
          · obtain ⟨bb, off, rfl, hb, d0, d1, d2, d3, k0, k1, k2, k3, hk2⟩ := HR.out j hlt
            have q0 := gr_cell HGR.out k0
            have q1 := gr_cell HGR.out k1
            have q2 := gr_cell HGR.out k2
            have q3 := gr_cell HGR.out k3
            have HK := hide (hk2.keep HGR.out)
            obtain ⟨kd2, i2, b2, ao2, len2, cap2, rfl, rfl, rfl, rfl⟩ := hk2.cells
            have htl : ((l.take j).map (dualE n)).length = j := by simp; omega
            have hl2 : (l.take (j + 1)).map (dualE n) = (l.take j).map (dualE n) ++ [dualE n (l[j])] := by
              rw [List.take_succ_eq_append_getElem hlt, List.map_append]
              rfl
            obtain ⟨ls, hls⟩ : ∃ ls, ls = (l.take j).map (dualE n) := ⟨_, rfl⟩
            rw [← hls] at HO htl hl2 ⊢
            have HL2 := hide hl2
            have hlsl : ls.length ≤ 100000 := by omega
            have HTL := hide htl
            clear k0 k1 k2 k3 hk2 hl2 hls htl
            go_wp2_with (first | (go_at_call 15; refine (IH.out (l[j]) _ _ _ _ _ (HK.out.keep (gr_alloc (gr_refl _ _) _)) (HF.out _ (List.getElem_mem hlt)) (HB.out _ (List.getElem_mem hlt))).mono ?_; rintro e w2 ⟨a0, a1, a2, a3, rfl, ha, g2⟩; obtain ⟨ak, ai, ab, aao, alen, acap, rfl, rfl, rfl, rfl⟩ := ha.way.cells; have HA := hide ha; have HG2 := hide g2; clear g2 ha) | (at_builtin; refine wpList_append_way _ rfl _ _ 22 rfl (w.heap.size + 2) Try.underlying22 Try.infoWay _ n ls rfl (((HO.out.keep (gr_alloc (gr_refl _ none) _) (fun _ e => by cases e)).keep HG2.out (fun _ e => by cases e)).keep (gr_alloc (gr_refl _ none) _) (fun _ e => by cases e)) w2.heap.size ak ai ab aao alen acap (dualE n (l[j])) rfl (boxNew _ _ _) ?_ hlsl ?_ ?_))
            · exact (HA.out.keep (ok' := fun b => w.heap.size + 2 ≤ b ∧ some b ≠ (Value.slice loo ls.length lcc).ownBlock) (gr_alloc (gr_refl _ none) _) (fun b _ hb => ⟨by simp, by have h : (wr.alloc (Obj.cells #[.int .i64 kd2, .int .i64 i2, .bool b2, .slice ao2 len2 cap2] 24)).heap.size ≤ b := hb; simp at h; omega, fun e => by
                obtain ⟨xs, hx1, _⟩ := HO.out.own
                have h5 := (hx1.lt b e.symm).2
                have h : (wr.alloc (Obj.cells #[.int .i64 kd2, .int .i64 i2, .bool b2, .slice ao2 len2 cap2] 24)).heap.size ≤ b := hb
                simp at h
                omega⟩))
            · have := HG2.out.size
              simp at this ⊢
              omega
            · intro ao3 cap3 w3 ho3 g3
              have hown := ((HO.out.keep (gr_alloc (gr_refl wr none) (Obj.cells #[.int .i64 kd2, .int .i64 i2, .bool b2, .slice ao2 len2 cap2] 24)) (fun _ e => by cases e)).keep HG2.out (fun _ e => by cases e)).keep (gr_alloc (gr_refl w2 none) (Obj.cells #[.int .i64 ak, .int .i64 ai, .bool ab, .slice aao alen acap] 24)) (fun _ e => by cases e)
              have gB : wr.grownBy (w2.alloc (Obj.cells #[.int .i64 ak, .int .i64 ai, .bool ab, .slice aao alen acap] 24)) none := gr_alloc (gr_none (gr_alloc (gr_refl wr none) _) HG2.out) _
              have HG3 := hide (hown.gr (gr_none HGR.out gB) g3 (by omega))
              have HBP3 := hide ((HBP.out.keep0 gB).keepO g3 (hown.ne (by omega)))
              have HBR3 := hide ((HBR.out.keep0 gB).keepO g3 (hown.ne (by omega)))
              have HO3 := hide ho3
              clear ho3 g3 hown gB
              go_wp2
              go_roundw
              case rel =>
                refine ⟨j + 1, by omega, by go_num, ?_, HBP3.out, HBR3.out, HG3.out⟩
                rw [HL2.out]
                exact HO3.out
              case measure => simp [intOf]; omega
          · obtain rfl : j = (l : List (Ex n)).length := by omega
            have hlm : ((l.take (l : List (Ex n)).length).map (dualE n)) = l.map (dualE n) := by rw [List.take_length]
            rw [hlm] at HO ⊢
            obtain ⟨p0, p1, p2, p3⟩ := HBP.out.c4
            obtain ⟨pf0, pf1, pf2, pf3⟩ := HBP.out.f4
            obtain ⟨r0, r1, r2, r3⟩ := HBR.out.c4
            obtain ⟨rf0, rf1, rf2, rf3⟩ := HBR.out.f4
            have HS1 := hide (gr_set1 wr w.heap.size 3 (.slice loo (l.map (dualE n)).length lcc))
            have HS4 := hide (gr_set4 (wr.setCell ⟨w.heap.size, 3, none⟩ (.slice loo (l.map (dualE n)).length lcc)) (w.heap.size + 1) 0 (.int .i64 2) (.int .i64 0) (.bool false) (.slice loo (l.map (dualE n)).length lcc))
            obtain ⟨ll, hll⟩ : ∃ ll, ll = (l.map (dualE n)).length := ⟨_, rfl⟩
            have HLL := hide hll
            rw [← hll]
            rw [← hll] at HS1 HS4
            have HW2 : Hid (WayP wr (fun b => w.heap.size + 2 ≤ b) (n + 1) (.int .i64 2) (.int .i64 0) (.bool false) (.slice loo ll lcc) (2, 0, false, l.map (dualE n))) := by
              rw [HLL.out]
              exact HO.out.read
            clear hll hlm HO
            go_wp2
            refine bodyPost_ret (v := .agg #[.int .i64 2, .int .i64 0, .bool false, .slice loo ll lcc]) (by simp [results, Try.results15, go_sem, r0, r1, r2, r3]) rfl ?_
            exact ⟨_, _, _, _, rfl, (HW2.out.keep (ok' := fun b => w.heap.size + 2 ≤ b) HS1.out (fun b _ hb => ⟨fun e => by have := Option.some.inj e; omega, hb⟩)).keep (ok' := fun b => w.heap.size ≤ b) HS4.out (fun b _ hb => ⟨fun e => by have := Option.some.inj e; omega, by omega⟩), gr_in (gr_in HGR.out HS1.out (by omega)) HS4.out (by omega)⟩
end Go.Proofs.Ytidnhafllbckcaa
