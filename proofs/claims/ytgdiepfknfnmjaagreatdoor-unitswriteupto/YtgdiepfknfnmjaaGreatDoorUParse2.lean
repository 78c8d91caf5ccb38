/- units: Parse: the walk. -/
import Derived.Test.YtgdiepfknfnmjaaGreatDoorMU2
import Derived.Deep.RegionHeld3
namespace Go.Proofs.YtgdiepfknfnmjaaGreatDoor
open Go.RowKit
set_option linter.unusedVariables false
set_option linter.unusedSimpArgs false

/-- What Parse wants to lie there. -/
structure PTabs (w : World) (m : Int) : Prop where
  u : UTabs w
  p : PrefTab w
  t : Tab10 w
  l : w.cell? ⟨5, 0, none⟩ = some (.int .i64 m)

theorem PTabs.keep0 {w w' : World} {m : Int} (h : PTabs w m) (hg : w.grownBy w' none) : PTabs w' m :=
  ⟨⟨fun c hc => hg.cell (h.u.1 c hc) (by simp), fun i hi => ⟨hg.cell (h.u.2 i hi).1 (by simp), hg.cell (h.u.2 i hi).2 (by simp)⟩⟩, h.p.keep0 hg, h.t.keep0 hg, hg.cell h.l (by simp)⟩

theorem end_bound {l : List UInt8} {p : Int} {u : List UInt8} (h : endR l = some (p, u)) : -15 ≤ p ∧ p ≤ 12 := by
  unfold endR at h
  cases hp : pfxS l with
  | none =>
    rw [hp] at h
    simp only [Option.map_eq_some_iff, Prod.mk.injEq] at h
    obtain ⟨_, _, h, _⟩ := h
    omega
  | some pk =>
    obtain ⟨q, k⟩ := pk
    rw [hp] at h
    simp only at h
    have hq : -15 ≤ q ∧ q ≤ 12 := by
      have : ∀ n b0 b1, pfxN n b0 b1 = some (q, k) → -15 ≤ q ∧ q ≤ 12 := by
        intro n b0 b1 h
        unfold pfxN at h
        repeat' split at h
        all_goals simp at h
        all_goals omega
      match l, hp with
      | [], hp => simp [pfxS] at hp
      | [b], hp => exact this _ _ _ hp
      | b :: c :: r, hp => exact this _ _ _ hp
    split at h
    · simp only [Option.some.injEq, Prod.mk.injEq] at h
      omega
    · simp only [Option.map_eq_some_iff, Prod.mk.injEq] at h
      obtain ⟨_, _, h, _⟩ := h
      omega

theorem ext_take (s : ByteArray) (i b : Nat) (h : i + b ≤ s.size) : (s.extract i (i + b)).data.toList = (s.data.toList.drop i).take b := by
  rw [ByteArray.data_extract, Array.toList_extract]
  show List.take (i + b - i) _ = _
  rw [Nat.add_sub_cancel_left]

theorem ext_empty (s : ByteArray) (i : Nat) : (s.extract i i).toList.isEmpty = true := by
  rw [ByteArray.toList_eq, ByteArray.data_extract, Array.toList_extract]
  show (List.take (i - i) _).isEmpty = true
  rw [Nat.sub_self]
  rfl

set_option maxHeartbeats 8000000 in
set_option maxRecDepth 10000 in
theorem parse_at (s : ByteArray) (m : Int) (w : World) (hs : s.size ≤ 9223372036854775807) (hT : PTabs w m) :
    Calls Tryz.prog 6 #[.string s] w fun e w' => e = .returned (parV (parseR s.data.toList)) ∧ w.grownBy w' none := by
  have hlen : s.data.toList.length = s.size := by rw [Array.length_toList]; rfl
  obtain ⟨l, hl⟩ : ∃ l, l = s.data.toList := ⟨_, rfl⟩
  rw [← hl] at hlen ⊢
  have HL := hide hl
  have HT := hide hT
  have HLEN := hide hlen
  clear hl hT
  obtain ⟨W, hW⟩ : ∃ W, W = w.alloc (Obj.cells #[.int .i64 0, .int .i64 0] 26) := ⟨_, rfl⟩
  have GW : Hid (w.grownBy W none) := by rw [hW]; exact gr_alloc (gr_refl _ _) _
  have FC : Hid (∀ wx, W.grownBy wx none → wx.cell? ⟨w.heap.size, 0, none⟩ = some (.int .i64 0) ∧ wx.cell? ⟨w.heap.size, 1, none⟩ = some (.int .i64 0) ∧ wx.frozen? ⟨w.heap.size, 0, none⟩ = false ∧ wx.frozen? ⟨w.heap.size, 1, none⟩ = false) := by
    intro wx hg
    rw [hW] at hg
    obtain ⟨a, b, c⟩ := flt_cells hg
    exact ⟨a, b, c 0, c 1⟩
  have HWS : Hid (W.heap.size = w.heap.size + 1) := by show _ = _; rw [hW]; simp
  by_cases hbig : 4000 < s.size
  · have HR : Hid (parseR l = ([], [], 2, 0)) := by show _ = _; rw [parseR, if_pos (by omega)]
    clear hlen
    go_enter Tryz.func6, Tryz.ntmps6
    go_wp2_with fail
    rw [← hW]
    refine (refuse_at 2 0 _).mono ?_
    rintro e w1 ⟨rfl, g1⟩
    obtain ⟨f0, f1, f2, f3⟩ := FC.out w1 g1
    have G1 := hide (gr_none GW.out g1)
    clear g1 hW
    rw [parV]
    go_wp2
    refine bodyPost_ret (v := parV ([], [], 2, 0)) (by simp [results, Tryz.results6, go_sem, f0, f1, parV]) rfl ?_
    rw [HR.out]
    exact ⟨rfl, gr_set (gr_set G1.out _ _ (by simp)) _ _ (by simp)⟩
  · have hsm : s.size ≤ 4000 := by omega
    clear hbig
    obtain ⟨t1, t2, t3⟩ := sgn_len l
    obtain ⟨k, hk⟩ : ∃ k, k = sgnL l := ⟨_, rfl⟩
    rw [← hk] at t1 t2
    have HK := hide hk
    obtain ⟨a, ha⟩ : ∃ a, a = runD (l.drop k) := ⟨_, rfl⟩
    have hal := runD_le (l.drop k)
    rw [← ha, List.length_drop] at hal
    have HA := hide ha
    obtain ⟨TP, hTP⟩ : ∃ t : ByteArray, t = ⟨(Lib.trimPrefix l [45]).toArray⟩ := ⟨_, rfl⟩
    have hTPs : TP.size = (Lib.trimPrefix l [45]).length := by rw [hTP]; rfl
    have htk : ((s.size : Int) - (TP.size : Int)) = (k : Int) := by omega
    have HTP := hide hTP
    have hTPb : TP.size ≤ 4000 := by omega
    clear hk ha hTP hTPs
    go_enter Tryz.func6, Tryz.ntmps6
    go_wp2_with fail
    rw [← hW]
    clear hW
    refine (Tryz.strings_TrimPrefix s ⟨#[45]⟩ _).mono ?_
    rintro e w1 ⟨rfl, hw1⟩
    rw [hw1]
    clear hw1
    rw [show (⟨#[45]⟩ : ByteArray).data.toList = [45] from rfl, ← HL.out, ← HTP.out]
    go_wp2_with fail
    first | rw [htk] | skip
    refine (digitsEnd_at s k _ (by omega) (by omega)).mono ?_
    rintro e w1 ⟨rfl, hw1⟩
    rw [hw1]
    clear hw1
    rw [← HL.out, ← HA.out]
    clear htk
    by_cases ha0 : a = 0
    · subst ha0
      have HR : Hid (parseR l = ([], [], 1, (k : Int))) := by
        show _ = _
        rw [parseR, if_neg (by omega), ← HK.out, ← HA.out, if_pos rfl]
      rw [Nat.add_zero]
      go_wp2_with fail
      refine (refuse_at 1 k _).mono ?_
      rintro e w1 ⟨rfl, g1⟩
      obtain ⟨f0, f1, f2, f3⟩ := FC.out w1 g1
      have G1 := hide (gr_none GW.out g1)
      clear g1
      rw [parV]
      go_wp2
      refine bodyPost_ret (v := parV ([], [], 1, (k : Int))) (by simp [results, Tryz.results6, go_sem, f0, f1, parV]) rfl ?_
      rw [HR.out]
      exact ⟨rfl, gr_set (gr_set G1.out _ _ (by simp)) _ _ (by simp)⟩
    · have hne1 : (((k + a : Nat) : Int) == (k : Int)) = false := beq_eq_false_iff_ne.2 (by omega)
      obtain ⟨pt, hpt⟩ : ∃ pt, pt = k + a := ⟨_, rfl⟩
      rw [← hpt] at hne1 ⊢
      have hpt2 : pt ≤ s.size := by omega
      have HPT := hide hpt
      have HCD := hide (cut_drop s pt hpt2)
      clear hpt
      go_wp2_with fail
      refine (Tryz.strings_HasPrefix _ ⟨#[46]⟩ _).mono ?_
      rintro e w1 ⟨rfl, hw1⟩
      rw [hw1]
      clear hw1
      rw [show (⟨#[46]⟩ : ByteArray).data.toList = [46] from rfl, HCD.out, ← HL.out]
      by_cases hdot : Lib.hasPrefix (l.drop pt) [46] = true
      · have hpl : pt < s.size := by
          rcases Nat.lt_or_ge pt s.size with h | h
          · exact h
          · rw [List.drop_of_length_le (by omega)] at hdot
            simp [Lib.hasPrefix, List.isPrefixOf] at hdot
        obtain ⟨b, hb⟩ : ∃ b, b = runD (l.drop (pt + 1)) := ⟨_, rfl⟩
        have hbl := runD_le (l.drop (pt + 1))
        rw [← hb, List.length_drop] at hbl
        have HB := hide hb
        rw [hdot]
        clear hb
        go_wp2_with fail
        first | (rw [show ((pt : Int) + 1) = ((pt + 1 : Nat) : Int) from by omega]) | skip
        refine (digitsEnd_at s (pt + 1) _ (by omega) (by omega)).mono ?_
        rintro e w1 ⟨rfl, hw1⟩
        rw [hw1]
        clear hw1
        rw [← HL.out, ← HB.out]
        by_cases hb0 : b = 0
        · subst hb0
          have HR : Hid (parseR l = ([], [], 1, ((pt + 1 : Nat) : Int))) := by
            show _ = _
            rw [parseR, if_neg (by omega), ← HK.out, ← HA.out, if_neg ha0, ← HPT.out, if_pos hdot, ← HB.out, if_pos rfl]
            have := HPT.out
            simp only [Prod.mk.injEq, true_and]
            omega
          rw [Nat.add_zero]
          have hex : (s.extract (pt + 1) (pt + 1)).toList.isEmpty = true := ext_empty s (pt + 1)
          clear hdot
          go_wp2_with fail
          refine (refuse_at 1 ((pt + 1 : Nat) : Int) _).mono ?_
          rintro e w1 ⟨rfl, g1⟩
          obtain ⟨f0, f1, f2, f3⟩ := FC.out w1 g1
          have G1 := hide (gr_none GW.out g1)
          clear g1
          rw [parV]
          go_wp2
          refine bodyPost_ret (v := parV ([], [], 1, ((pt + 1 : Nat) : Int))) (by simp [results, Tryz.results6, go_sem, f0, f1, parV]) rfl ?_
          rw [HR.out]
          exact ⟨rfl, gr_set (gr_set G1.out _ _ (by simp)) _ _ (by simp)⟩
        · obtain ⟨en, hen0⟩ : ∃ e, e = pt + 1 + b := ⟨_, rfl⟩
          have hen : en ≤ s.size := by omega
          obtain ⟨FS, hFS⟩ : ∃ t : ByteArray, t = s.extract (pt + 1) en := ⟨_, rfl⟩
          have hFSl : FS.data.toList = (l.drop (pt + 1)).take b := by rw [hFS, hen0, HL.out]; exact ext_take s (pt + 1) b (by omega)
          have hFSz : FS.size = b := by
            rw [Lib.size_eq, hFSl, List.length_take, List.length_drop]
            omega
          have HR : Hid (parseR l = parseEnd (Lib.hasPrefix l [45]) ((l.drop k).take a) FS.data.toList (l.drop en) en) := by
            show _ = _
            rw [parseR, if_neg (by omega), ← HK.out, ← HA.out, if_neg ha0, ← HPT.out, if_pos hdot, ← HB.out, if_neg hb0, hFSl, hen0]
          have hex0 : FS.toList.isEmpty = false := isEmpty_no (fun e => by rw [Lib.size_eq, e] at hFSz; simp at hFSz; omega)
          have hex : (s.extract (pt + 1) en).toList.isEmpty = false := by rw [← hFS]; exact hex0
          clear hex0
          rw [← hen0]
          have HFS := hide hFS
          have HFSL := hide hFSl
          have HFSZ := hide hFSz
          have HEN := hide hen0
          have hpe : pt + 1 ≤ en := by omega
          clear hdot hFS hFSl hFSz hen0
          go_wp2_with fail
          rw [← HFS.out]
          have HCE := hide (cut_drop s en hen)
          refine (readEnding_at _ _ (by rw [(cut_bytes s en hen).2]; omega) (HT.out.keep0 GW.out).u (HT.out.keep0 GW.out).p).mono ?_
          rintro e w2 ⟨rfl, g2⟩
          rw [HCE.out, ← HL.out]
          obtain ⟨f0, f1, f2, f3⟩ := FC.out w2 g2
          have G2 := hide g2
          clear g2
          cases hend : endR (l.drop en) with
          | none =>
            have HR2 : Hid (parseR l = ([], [], 1, (en : Int))) := by
              show _ = _
              rw [HR.out, parseEnd, hend]
            rw [EndE, hend]
            clear hend
            go_wp2_with fail
            refine (refuse_at 1 en _).mono ?_
            rintro e w3 ⟨rfl, g3⟩
            obtain ⟨h0, h1, h2, h3⟩ := FC.out w3 (gr_none G2.out g3)
            have G3 := hide (gr_none GW.out (gr_none G2.out g3))
            clear g3 f0 f1 f2 f3
            rw [parV]
            go_wp2
            refine bodyPost_ret (v := parV ([], [], 1, (en : Int))) (by simp [results, Tryz.results6, go_sem, h0, h1, parV]) rfl ?_
            rw [HR2.out]
            exact ⟨rfl, gr_set (gr_set G3.out _ _ (by simp)) _ _ (by simp)⟩
          | some pu =>
            obtain ⟨p, u⟩ := pu
            have hfs1 : FS.size ≤ b := by rw [HFSZ.out]; exact Nat.le_refl _
            have hfs2 : b ≤ FS.size := by rw [HFSZ.out]; exact Nat.le_refl _
            have hxs : (s.extract 0 pt).size ≤ 4000 := by
              have h1 := ext_take s 0 pt (by omega)
              rw [Nat.zero_add, List.drop_zero] at h1
              rw [Lib.size_eq, h1, List.length_take]
              omega
            have HR2 : Hid (parseR l = (qtext (decQ (Lib.hasPrefix l [45]) ((l.drop k).take a) FS.data.toList p), u, 0, 0)) := by
              show _ = _
              rw [HR.out, parseEnd, hend]
            have hpb := end_bound hend
            rw [EndE, hend]
            clear hend
            simp only
            go_wp2_with fail
            obtain ⟨OS, hOS⟩ : ∃ t : ByteArray, t = s.extract 0 pt ++ FS := ⟨_, rfl⟩
            rw [← hOS]
            have hOSl : OS.data.toList = l.take pt ++ FS.data.toList := by
              rw [hOS, ByteArray.data_append, Array.toList_append, HL.out]
              congr 1
              have := ext_take s 0 pt (by omega)
              rw [Nat.zero_add, List.drop_zero] at this
              exact this
            have hOSz : OS.size ≤ 8000 := by
              rw [Lib.size_eq, hOSl, List.length_append, List.length_take]
              have hz := HFSZ.out
              rw [Lib.size_eq] at hz
              omega
            have hq : Hid (ofR OS.data.toList = ((sgq (Lib.hasPrefix l [45]) (decL ((l.drop k).take a ++ FS.data.toList)) : Int) : Rat)) := by
              show _ = _
              rw [hOSl, HPT.out, HK.out, sgn_take, ← HK.out, List.append_assoc]
              refine ofR_digits _ _ ?_ ?_
              · intro e
                have h1 := congrArg List.length e
                rw [List.length_append, List.length_take, List.length_drop] at h1
                simp at h1
                omega
              · intro c hc
                rcases List.mem_append.1 hc with hc | hc
                · rw [HA.out] at hc
                  exact (run_take (l.drop k)).1 c hc
                · rw [HFSL.out, HB.out] at hc
                  exact (run_take (l.drop (pt + 1))).1 c hc
            clear hOS hOSl
            refine (qOf_at OS m _ (by omega) ((HT.out.keep0 GW.out).keep0 G2.out).l).mono ?_
            rintro e w3 ⟨fv, rfl, q1, q2⟩
            rw [hq.out] at q1
            obtain ⟨uo, ul, uc, do_, dl, dc, rfl⟩ := q1.shape
            obtain ⟨q0, hq0⟩ : ∃ q0, q0 = ((sgq (Lib.hasPrefix l [45]) (decL ((l.drop k).take a ++ FS.data.toList)) : Int) : Rat) := ⟨_, rfl⟩
            rw [← hq0] at q1 ⊢
            have Q1 := hide q1
            have HQ0 := hide hq0
            obtain ⟨W3, hW3⟩ : ∃ W3, W3 = w3.alloc (Obj.cells #[.bool (rB q0), .slice uo ul uc, .slice do_ dl dc] 45) := ⟨_, rfl⟩
            have G3 : Hid (W.grownBy W3 none) := by rw [hW3]; exact gr_none G2.out (gr_none q2 (gr_alloc (gr_refl _ _) _))
            have CELLS : Hid (∀ wx, W3.grownBy wx none → wx.cell? ⟨w3.heap.size, 0, none⟩ = some (.bool (rB q0)) ∧ wx.cell? ⟨w3.heap.size, 1, none⟩ = some (.slice uo ul uc) ∧ wx.cell? ⟨w3.heap.size, 2, none⟩ = some (.slice do_ dl dc)) := by
              intro wx hg
              rw [hW3] at hg
              exact box_three hg
            have hlt3 : w.heap.size < w3.heap.size := by
              have h1 := HWS.out
              have h2 := G2.out.size
              have h3 := q2.size
              omega
            have hne1 : ¬ w.heap.size = w3.heap.size := by omega
            have hne2 : ¬ w3.heap.size = w.heap.size := by omega
            have GC : W3.grownBy W3 none := gr_refl _ _
            obtain ⟨s0, s1, s2⟩ := CELLS.out W3 GC
            have FQ3 : Hid (FQ W3 (.agg #[.bool (rB q0), .slice uo ul uc, .slice do_ dl dc]) q0 (OS.size + 1)) := by rw [hW3]; exact Q1.out.keep0 (gr_alloc (gr_refl _ _) _)
            have hpz : -5000 ≤ p - (b : Int) ∧ p - (b : Int) ≤ 12 := by
              omega
            obtain ⟨hpz1, hpz2⟩ := hpz
            obtain ⟨pz, hpz0⟩ : ∃ z, z = p - (b : Int) := ⟨_, rfl⟩
            have HPZ := hide hpz0
            clear q1 q2 hq0 hq f0 f1 f2 f3
            go_wp2
            try rw [← hW3]
            clear hW3
            go_region_held3 (fun w' => w'.cell? ⟨w3.heap.size, 0, none⟩ = some (.bool (rB q0)) ∧ w'.cell? ⟨w3.heap.size, 1, none⟩ = some (.slice uo ul uc) ∧ w'.cell? ⟨w3.heap.size, 2, none⟩ = some (.slice do_ dl dc)) (go_keep)
              (first | (go_at_call 19; rw [IntWalk.i64_in _ ⟨by omega, by omega⟩]; refine (ten_at _ _ (by omega) (by omega)).mono ?_; rintro e wa ⟨tv, rfl, t1, t2⟩; obtain ⟨to1, tl1, tc1, to2, tl2, tc2, rfl⟩ := t1.shape; have GC : W3.grownBy wa none := gr_none (by first | exact GC | exact gr_none GC (gr_d _) | exact gr_none GC gr_d1) t2; obtain ⟨a0, a1, a2⟩ := CELLS.out wa GC) | (go_at_call 18; refine (qTimes_at _ _ q0 _ (OS.size + 1) _ _ (FQ3.out.keep0 (by first | exact GC | exact gr_none GC (gr_d _) | exact gr_none GC gr_d1)) (t1.keep0 (by first | exact gr_refl _ _ | exact gr_d _ | exact gr_d1)) (by omega)).mono ?_; rintro e wb ⟨mv, rfl, m1, m2⟩; obtain ⟨mo1, ml1, mc1, mo2, ml2, mc2, rfl⟩ := m1.shape; have GC : W3.grownBy wb none := gr_none (by first | exact GC | exact gr_none GC (gr_d _) | exact gr_none GC gr_d1) m2; obtain ⟨b0, b1, b2⟩ := CELLS.out wb GC) | (go_at_call 20; refine (fQ_at _ _ _ _ (m1.keep0 (by first | exact gr_refl _ _ | exact gr_d _ | exact gr_d1)) (by omega) ((HT.out.keep0 GW.out).keep0 (gr_none G3.out (by first | exact GC | exact gr_none GC (gr_d _) | exact gr_none GC gr_d1))).t).mono ?_; rintro e wc ⟨rfl, m3⟩; have GC : W3.grownBy wc none := gr_none (by first | exact GC | exact gr_none GC (gr_d _) | exact gr_none GC gr_d1) m3; obtain ⟨c0, c1, c2⟩ := CELLS.out wc GC; obtain ⟨f0, f1, f2, f3⟩ := FC.out wc (gr_none G3.out GC)))
            all_goals
              have HGC := hide GC
              clear t1 t2 m1 m2
              go_wp2
              refine bodyPost_ret (v := parV (qtext (q0 * (10 : Rat) ^ (p - (FS.size : Int))), u, 0, 0)) (by simp [results, Tryz.results6, go_sem, f0, f1, parV]) rfl ?_
              refine ⟨?_, gr_set (gr_set (gr_none GW.out (gr_none G3.out HGC.out)) _ _ (by simp)) _ _ (by simp)⟩
              rw [HR2.out, decQ, ← HQ0.out, ← Lib.size_eq]
      · have hdf : Lib.hasPrefix (l.drop pt) [46] = false := by simpa using hdot
        rw [hdf]
        have HR : Hid (parseR l = parseEnd (Lib.hasPrefix l [45]) ((l.drop k).take a) [] (l.drop pt) pt) := by
          show _ = _
          rw [parseR, if_neg (by omega), ← HK.out, ← HA.out, if_neg ha0, ← HPT.out, if_neg (by rw [hdf]; decide)]
        clear hdot hdf
        have HCE := hide (cut_drop s pt hpt2)
        go_wp2_with fail
        refine (readEnding_at _ _ (by rw [(cut_bytes s pt hpt2).2]; omega) (HT.out.keep0 GW.out).u (HT.out.keep0 GW.out).p).mono ?_
        rintro e w2 ⟨rfl, g2⟩
        rw [HCE.out, ← HL.out]
        obtain ⟨f0, f1, f2, f3⟩ := FC.out w2 g2
        have G2 := hide g2
        clear g2
        cases hend : endR (l.drop pt) with
        | none =>
          have HR2 : Hid (parseR l = ([], [], 1, (pt : Int))) := by
            show _ = _
            rw [HR.out, parseEnd, hend]
          rw [EndE, hend]
          clear hend
          go_wp2_with fail
          refine (refuse_at 1 pt _).mono ?_
          rintro e w3 ⟨rfl, g3⟩
          obtain ⟨h0, h1, h2, h3⟩ := FC.out w3 (gr_none G2.out g3)
          have G3 := hide (gr_none GW.out (gr_none G2.out g3))
          clear g3 f0 f1 f2 f3
          rw [parV]
          go_wp2
          refine bodyPost_ret (v := parV ([], [], 1, (pt : Int))) (by simp [results, Tryz.results6, go_sem, h0, h1, parV]) rfl ?_
          rw [HR2.out]
          exact ⟨rfl, gr_set (gr_set G3.out _ _ (by simp)) _ _ (by simp)⟩
        | some pu =>
          obtain ⟨p, u⟩ := pu
          have HR2 : Hid (parseR l = (qtext (decQ (Lib.hasPrefix l [45]) ((l.drop k).take a) [] p), u, 0, 0)) := by
            show _ = _
            rw [HR.out, parseEnd, hend]
          have hpb := end_bound hend
          rw [EndE, hend]
          clear hend
          simp only
          go_wp2_with fail
          obtain ⟨OS, hOS⟩ : ∃ t : ByteArray, t = s.extract 0 pt ++ ⟨#[]⟩ := ⟨_, rfl⟩
          rw [← hOS]
          have hOSl : OS.data.toList = l.take pt ++ [] := by
            rw [hOS, ByteArray.data_append, Array.toList_append, HL.out]
            congr 1
            have := ext_take s 0 pt (by omega)
            rw [Nat.zero_add, List.drop_zero] at this
            exact this
          have hOSz : OS.size ≤ 8000 := by
            rw [Lib.size_eq, hOSl, List.length_append, List.length_take]
            simp; omega
          have hq : Hid (ofR OS.data.toList = ((sgq (Lib.hasPrefix l [45]) (decL ((l.drop k).take a ++ [])) : Int) : Rat)) := by
            show _ = _
            rw [hOSl, HPT.out, HK.out, sgn_take, ← HK.out, List.append_assoc]
            refine ofR_digits _ _ ?_ ?_
            · intro e
              have h1 := congrArg List.length e
              rw [List.length_append, List.length_take, List.length_drop] at h1
              simp at h1
              omega
            · intro c hc
              rcases List.mem_append.1 hc with hc | hc
              · rw [HA.out] at hc
                exact (run_take (l.drop k)).1 c hc
              · simp at hc
          clear hOS hOSl
          refine (qOf_at OS m _ (by omega) ((HT.out.keep0 GW.out).keep0 G2.out).l).mono ?_
          rintro e w3 ⟨fv, rfl, q1, q2⟩
          rw [hq.out] at q1
          obtain ⟨uo, ul, uc, do_, dl, dc, rfl⟩ := q1.shape
          obtain ⟨q0, hq0⟩ : ∃ q0, q0 = ((sgq (Lib.hasPrefix l [45]) (decL ((l.drop k).take a ++ [])) : Int) : Rat) := ⟨_, rfl⟩
          rw [← hq0] at q1 ⊢
          have Q1 := hide q1
          have HQ0 := hide hq0
          obtain ⟨W3, hW3⟩ : ∃ W3, W3 = w3.alloc (Obj.cells #[.bool (rB q0), .slice uo ul uc, .slice do_ dl dc] 45) := ⟨_, rfl⟩
          have G3 : Hid (W.grownBy W3 none) := by rw [hW3]; exact gr_none G2.out (gr_none q2 (gr_alloc (gr_refl _ _) _))
          have CELLS : Hid (∀ wx, W3.grownBy wx none → wx.cell? ⟨w3.heap.size, 0, none⟩ = some (.bool (rB q0)) ∧ wx.cell? ⟨w3.heap.size, 1, none⟩ = some (.slice uo ul uc) ∧ wx.cell? ⟨w3.heap.size, 2, none⟩ = some (.slice do_ dl dc)) := by
            intro wx hg
            rw [hW3] at hg
            exact box_three hg
          have hlt3 : w.heap.size < w3.heap.size := by
            have h1 := HWS.out
            have h2 := G2.out.size
            have h3 := q2.size
            omega
          have hne1 : ¬ w.heap.size = w3.heap.size := by omega
          have hne2 : ¬ w3.heap.size = w.heap.size := by omega
          have GC : W3.grownBy W3 none := gr_refl _ _
          obtain ⟨s0, s1, s2⟩ := CELLS.out W3 GC
          have FQ3 : Hid (FQ W3 (.agg #[.bool (rB q0), .slice uo ul uc, .slice do_ dl dc]) q0 (OS.size + 1)) := by rw [hW3]; exact Q1.out.keep0 (gr_alloc (gr_refl _ _) _)
          have hpz : -5000 ≤ p - (0 : Int) ∧ p - (0 : Int) ≤ 12 := by
            omega
          obtain ⟨hpz1, hpz2⟩ := hpz
          obtain ⟨pz, hpz0⟩ : ∃ z, z = p - (0 : Int) := ⟨_, rfl⟩
          have HPZ := hide hpz0
          clear q1 q2 hq0 hq f0 f1 f2 f3
          go_wp2
          try rw [← hW3]
          clear hW3
          go_region_held3 (fun w' => w'.cell? ⟨w3.heap.size, 0, none⟩ = some (.bool (rB q0)) ∧ w'.cell? ⟨w3.heap.size, 1, none⟩ = some (.slice uo ul uc) ∧ w'.cell? ⟨w3.heap.size, 2, none⟩ = some (.slice do_ dl dc)) (go_keep)
            (first | (go_at_call 19; rw [IntWalk.i64_in _ ⟨by omega, by omega⟩]; refine (ten_at _ _ (by omega) (by omega)).mono ?_; rintro e wa ⟨tv, rfl, t1, t2⟩; obtain ⟨to1, tl1, tc1, to2, tl2, tc2, rfl⟩ := t1.shape; have GC : W3.grownBy wa none := gr_none (by first | exact GC | exact gr_none GC (gr_d _) | exact gr_none GC gr_d1) t2; obtain ⟨a0, a1, a2⟩ := CELLS.out wa GC) | (go_at_call 18; refine (qTimes_at _ _ q0 _ (OS.size + 1) _ _ (FQ3.out.keep0 (by first | exact GC | exact gr_none GC (gr_d _) | exact gr_none GC gr_d1)) (t1.keep0 (by first | exact gr_refl _ _ | exact gr_d _ | exact gr_d1)) (by omega)).mono ?_; rintro e wb ⟨mv, rfl, m1, m2⟩; obtain ⟨mo1, ml1, mc1, mo2, ml2, mc2, rfl⟩ := m1.shape; have GC : W3.grownBy wb none := gr_none (by first | exact GC | exact gr_none GC (gr_d _) | exact gr_none GC gr_d1) m2; obtain ⟨b0, b1, b2⟩ := CELLS.out wb GC) | (go_at_call 20; refine (fQ_at _ _ _ _ (m1.keep0 (by first | exact gr_refl _ _ | exact gr_d _ | exact gr_d1)) (by omega) ((HT.out.keep0 GW.out).keep0 (gr_none G3.out (by first | exact GC | exact gr_none GC (gr_d _) | exact gr_none GC gr_d1))).t).mono ?_; rintro e wc ⟨rfl, m3⟩; have GC : W3.grownBy wc none := gr_none (by first | exact GC | exact gr_none GC (gr_d _) | exact gr_none GC gr_d1) m3; obtain ⟨c0, c1, c2⟩ := CELLS.out wc GC; obtain ⟨f0, f1, f2, f3⟩ := FC.out wc (gr_none G3.out GC)))
          all_goals
            have HGC := hide GC
            clear t1 t2 m1 m2
            go_wp2
            refine bodyPost_ret (v := parV (qtext (q0 * (10 : Rat) ^ p), u, 0, 0)) (by simp [results, Tryz.results6, go_sem, f0, f1, parV]) rfl ?_
            refine ⟨?_, gr_set (gr_set (gr_none GW.out (gr_none G3.out HGC.out)) _ _ (by simp)) _ _ (by simp)⟩
            rw [HR2.out, decQ, ← HQ0.out]
            simp
end Go.Proofs.YtgdiepfknfnmjaaGreatDoor
