/- The reference: ReadQuantity: the walk. -/
import Derived.Test.YtgdiepfknfnmjaaGreatDoorMRa
import Derived.Test.YtgdiepfknfnmjaaGreatDoorMRb
import Derived.Deep.RegionWith
import Derived.Deep.DeepCutAuto
namespace Go.Proofs.YtgdiepfknfnmjaaGreatDoor
open Go.RowKit
set_option linter.unusedVariables false
set_option linter.unusedSimpArgs false

theorem val_neg (D : Nat) (n p : Int) : -(((D : Int) : Rat) * (10 : Rat) ^ (-n)) * (10 : Rat) ^ p = ((sgq true D : Int) : Rat) * (10 : Rat) ^ (p - n) := by
  have e : ((sgq true D : Int) : Rat) = -((D : Int) : Rat) := by unfold sgq; exact Rat.intCast_neg _
  rw [e, show p - n = -n + p by omega, Rat.zpow_add ten_ne, Rat.neg_mul, Rat.neg_mul, Rat.mul_assoc]

theorem val_pos (D : Nat) (n p : Int) : ((D : Int) : Rat) * (10 : Rat) ^ (-n) * (10 : Rat) ^ p = ((sgq false D : Int) : Rat) * (10 : Rat) ^ (p - n) := by
  have e : ((sgq false D : Int) : Rat) = ((D : Int) : Rat) := by unfold sgq; rfl
  rw [e, show p - n = -n + p by omega, Rat.zpow_add ten_ne, Rat.mul_assoc]

theorem pw_le {p : List UInt8} {e : Int} (h : (p, e) ∈ pwL) : -1000 ≤ e ∧ e ≤ 1000 := by
  simp only [pwL, pfxL, List.mem_cons, Prod.mk.injEq, List.not_mem_nil, or_false] at h
  omega

/-- The number behind the sign, and what is left of the text. -/
def numQ (neg : Bool) (D : Nat) (n : Int) : Rat := if neg then -(((D : Int) : Rat) * (10 : Rat) ^ (-n)) else ((D : Int) : Rat) * (10 : Rat) ^ (-n)

theorem numQ_at (neg : Bool) (D : Nat) (n p : Int) : numQ neg D n * (10 : Rat) ^ p = ((sgq neg D : Int) : Rat) * (10 : Rat) ^ (p - n) := by
  cases neg
  · exact val_pos D n p
  · exact val_neg D n p

set_option maxHeartbeats 16000000 in
set_option maxRecDepth 10000 in
theorem read_some (s : ByteArray) (w : World) (hs : s.size ≤ 4000) (h0 : 0 < s.size) (hpm : PM w) (hum : UM w) :
    Calls Tryz.prog 7 #[.string s] w fun e w' => e = .returned (parV (parseR s.data.toList)) ∧ w.grownBy w' none := by
  have hemp : s.toList.isEmpty = false := isEmpty_no (fun e => by rw [Lib.size_eq, e] at h0; simp at h0)
  have hlen : s.data.toList.length = s.size := by rw [Array.length_toList]; rfl
  obtain ⟨l, hl⟩ : ∃ l, l = s.data.toList := ⟨_, rfl⟩
  rw [← hl] at hlen ⊢
  obtain ⟨ng, hng⟩ : ∃ b, b = Lib.hasPrefix l [45] := ⟨_, rfl⟩
  obtain ⟨K, hK⟩ : ∃ K, K = sgnL l := ⟨_, rfl⟩
  have hK2 : K = if ng = true then 1 else 0 := by rw [hK, sgnL, hng]
  have hK1 : K ≤ 1 := by rw [hK2]; split <;> omega
  have hsg : ng = true ↔ s[0] = 45 := by
    have := pre_byte s 0 45
    rw [List.drop_zero, ← hl, ← hng] at this
    rw [this]
    exact ⟨fun ⟨_, e⟩ => e, fun e => ⟨h0, e⟩⟩
  have HL := hide hl
  have HK := hide hK.symm
  have HK2 := hide hK2
  have HPM := hide hpm
  have HUM := hide hum
  have HNG := hide hng.symm
  have HSG := hide hsg
  clear hl hK hK2 hpm hum hng hsg
  obtain ⟨W, hW⟩ : ∃ W, W = (w.alloc (Obj.cells #[.string s] 9)).alloc (Obj.cells #[.int .i64 0, .int .i64 0] 26) := ⟨_, rfl⟩
  have GW : Hid (w.grownBy W none) := by rw [hW]; exact gr_alloc (gr_alloc (gr_refl _ _) _) _
  have SC : Hid (∀ wx, W.grownBy wx none → wx.cell? ⟨w.heap.size, 0, none⟩ = some (.string s) ∧ wx.cell? ⟨w.heap.size + 1, 0, none⟩ = some (.int .i64 0) ∧ wx.cell? ⟨w.heap.size + 1, 1, none⟩ = some (.int .i64 0) ∧ wx.frozen? ⟨w.heap.size + 1, 0, none⟩ = false ∧ wx.frozen? ⟨w.heap.size + 1, 1, none⟩ = false) := by
    intro wx hg
    rw [hW] at hg
    have e1 : (w.alloc (Obj.cells #[.string s] 9)).heap.size = w.heap.size + 1 := by simp
    obtain ⟨a, b, c⟩ := flt_cells hg
    rw [e1] at a b c
    have e2 : wx.heap[w.heap.size]? = some (Obj.cells #[.string s] 9 (0, 0)) := by
      rw [(gr_none (gr_alloc (gr_refl _ none) _) hg).block w.heap.size (by simp) (by simp)]
      exact heap_alloc_new w _
    exact ⟨by simp [World.cell?, e2], a, b, c 0, c 1⟩
  obtain ⟨a, ha⟩ : ∃ a, a = runD (l.drop K) := ⟨_, rfl⟩
  have hal := runD_le (l.drop K)
  rw [← ha, List.length_drop] at hal
  have HA := hide ha
  clear ha
  obtain ⟨z0, _, _, _, _⟩ := SC.out W (gr_refl _ _)
  go_enter Tryz.func7, Tryz.ntmps7
  go_upto_if 34 with fail
  rw [← hW]
  clear hW
  go_cut [7] (fun s7 wx => s7 = .int .i64 (K : Nat) ∧ W = wx)
  case first =>
    by_cases h45 : s[0] = 45
    · have hbyte : ((s[0].toNat : Int) == 45) = true := by rw [h45]; rfl
      have hKe : K = 1 := by rw [HK2.out, if_pos (HSG.out.2 h45)]
      clear h45
      go_wp2_with fail
      go_meet
      exact ⟨by rw [hKe]; rfl, rfl⟩
    · have hbyte : ((s[0].toNat : Int) == 45) = false := beq_eq_false_iff_ne.2 (fun e => h45 (byte_is (n := 45) (by decide) (by omega)))
      have hKe : K = 0 := by rw [HK2.out, if_neg (fun e => h45 (HSG.out.1 e))]
      clear h45
      go_wp2_with fail
      go_meet
      exact ⟨by rw [hKe]; rfl, rfl⟩
  case rest =>
    obtain ⟨rfl, rfl⟩ := hcut
    go_wp2_with fail
    refine (rEnd_at s K w.heap.size W (by omega) (by omega) z0).mono ?_
    rintro e w1 ⟨rfl, hw1⟩
    rw [hw1, ← HL.out, ← HA.out]
    clear hw1
    by_cases ha0 : a = 0
    · subst ha0
      have HR : Hid (parseR l = ([], [], 1, (K : Int))) := by
        show _ = _
        rw [parseR, if_neg (by omega), HK.out, ← HA.out, if_pos rfl]
      have hkk : (((K : Nat) : Int) == ((K : Nat) : Int)) = true := beq_self_eq_true _
      rw [Nat.add_zero]
      go_wp2_with fail
      refine (bad_at (K : Int) _).mono ?_
      rintro e w9 ⟨rfl, g9⟩
      obtain ⟨_, f0, f1, f2, f3⟩ := SC.out w9 g9
      have G9 := hide (gr_none GW.out g9)
      clear g9
      rw [parV]
      go_wp2
      refine bodyPost_ret (v := parV ([], [], 1, (K : Int))) (by simp [results, Tryz.results7, go_sem, f0, f1, parV]) rfl ?_
      rw [HR.out]
      exact ⟨rfl, gr_set (gr_set G9.out _ _ (by simp)) _ _ (by simp)⟩
    · obtain ⟨pt, hpt⟩ : ∃ pt, pt = K + a := ⟨_, rfl⟩
      have hne1 : (((pt : Nat) : Int) == ((K : Nat) : Int)) = false := beq_eq_false_iff_ne.2 (by omega)
      rw [← hpt]
      have hpt2 : pt ≤ s.size := by omega
      have hptk : K ≤ pt := by omega
      have HPT := hide hpt
      clear hpt
      go_upto_region 13 with fail
      go_cut [61] (fun s61 wx => s61 = .bool (Lib.hasPrefix (l.drop pt) [46]) ∧ W = wx)
      case first =>
        by_cases hlt : pt < s.size
        · by_cases h46 : s[pt] = 46
          · have h46b : ((s[pt].toNat : Int) == 46) = true := by rw [h46]; rfl
            have hdv : Hid (Lib.hasPrefix (l.drop pt) [46] = true) := by show _ = _; rw [HL.out]; exact (pre_byte s pt 46).2 ⟨hlt, h46⟩
            clear h46
            go_wp2_with fail
            go_meet
            exact ⟨by rw [hdv.out], rfl⟩
          · have h46b : ((s[pt].toNat : Int) == 46) = false := beq_eq_false_iff_ne.2 (fun e => h46 (byte_is (n := 46) (by decide) (by omega)))
            have hdv : Hid (Lib.hasPrefix (l.drop pt) [46] = false) := by
              show _ = _
              rw [HL.out]
              exact Bool.eq_false_iff.2 (fun e => h46 ((pre_byte s pt 46).1 e).2)
            clear h46
            go_wp2_with fail
            go_meet
            exact ⟨by rw [hdv.out], rfl⟩
        · have hdv : Hid (Lib.hasPrefix (l.drop pt) [46] = false) := by
            show _ = _
            rw [HL.out]
            exact Bool.eq_false_iff.2 (fun e => hlt ((pre_byte s pt 46).1 e).1)
          go_wp2_with fail
          go_meet
          exact ⟨by rw [hdv.out], rfl⟩
      case rest =>
        obtain ⟨rfl, rfl⟩ := hcut
        obtain ⟨DS, hDS⟩ : ∃ x, x = (l.drop K).take a := ⟨_, rfl⟩
        have HDS := hide hDS
        clear hDS
        go_upto_if 61 with fail
        go_cut [10, 11, 12] (fun s10 s11 s12 wx => Hid (W = wx ∧ ∃ (FS : ByteArray) (en : Nat), s10 = .string FS ∧ s11 = .int .i64 (en : Nat) ∧ en ≤ s.size ∧ FS.size ≤ s.size ∧ (∀ c ∈ FS.data.toList, isD c = true) ∧ parseR l = parseEnd ng DS FS.data.toList (l.drop en) en))
        case first =>
          by_cases hdot : Lib.hasPrefix (l.drop pt) [46] = true
          · obtain ⟨hpl, h46⟩ := (pre_byte s pt 46).1 (by rw [← HL.out]; exact hdot)
            obtain ⟨b, hb⟩ : ∃ b, b = runD (l.drop (pt + 1)) := ⟨_, rfl⟩
            have hbl := runD_le (l.drop (pt + 1))
            rw [← hb, List.length_drop] at hbl
            have HB := hide hb
            have HDOT := hide hdot
            rw [hdot]
            clear hb h46 hdot
            go_wp2_with fail
            first | (rw [show ((pt : Int) + 1) = ((pt + 1 : Nat) : Int) from by omega]) | skip
            refine (rEnd_at s (pt + 1) w.heap.size W (by omega) (by omega) z0).mono ?_
            rintro e w1 ⟨rfl, hw1⟩
            rw [hw1, ← HL.out, ← HB.out]
            clear hw1
            by_cases hb0 : b = 0
            · subst hb0
              have HR : Hid (parseR l = ([], [], 1, ((pt + 1 : Nat) : Int))) := by
                show _ = _
                rw [parseR, if_neg (by omega), HK.out, ← HA.out, if_neg ha0, ← HPT.out, if_pos HDOT.out, ← HB.out, if_pos rfl]
                have := HPT.out
                simp only [Prod.mk.injEq, true_and]
                omega
              rw [Nat.add_zero]
              go_wp2_with fail
              refine (bad_at ((pt + 1 : Nat) : Int) _).mono ?_
              rintro e w9 ⟨rfl, g9⟩
              obtain ⟨_, f0, f1, f2, f3⟩ := SC.out w9 g9
              have G9 := hide (gr_none GW.out g9)
              clear g9
              rw [parV]
              go_wp2
              refine bodyPost_ret (v := parV ([], [], 1, ((pt + 1 : Nat) : Int))) (by simp [results, Tryz.results7, go_sem, f0, f1, parV]) rfl ?_
              rw [HR.out]
              exact ⟨rfl, gr_set (gr_set G9.out _ _ (by simp)) _ _ (by simp)⟩
            · obtain ⟨en, hen0⟩ : ∃ e, e = pt + 1 + b := ⟨_, rfl⟩
              have hen : en ≤ s.size := by omega
              have hpe : pt + 1 ≤ en := by omega
              have hFSl : (s.extract (pt + 1) en).data.toList = (l.drop (pt + 1)).take b := by rw [hen0, HL.out]; exact ext_take s (pt + 1) b (by omega)
              have hFSz : (s.extract (pt + 1) en).size ≤ s.size := by
                rw [Lib.size_eq, hFSl, List.length_take, List.length_drop]
                omega
              have HR : Hid (parseR l = parseEnd ng DS (s.extract (pt + 1) en).data.toList (l.drop en) en) := by
                show _ = _
                rw [parseR, if_neg (by omega), HK.out, ← HA.out, if_neg ha0, ← HPT.out, if_pos HDOT.out, ← HB.out, if_neg hb0, hFSl, hen0, HNG.out, ← HDS.out]
              have hFSd : Hid (∀ c ∈ (s.extract (pt + 1) en).data.toList, isD c = true) := by
                intro c hc
                rw [hFSl, HB.out] at hc
                exact (run_take (l.drop (pt + 1))).1 c hc
              have hneb : ((((pt + 1 + b : Nat)) : Int) == ((pt + 1 : Nat) : Int)) = false := beq_eq_false_iff_ne.2 (by omega)
              have hneb2 : ((en : Int) == (pt : Int) + 1) = false := beq_eq_false_iff_ne.2 (by omega)
              rw [← hen0] at hneb ⊢
              have HFSZ := hide hFSz
              clear hFSl hen0 hFSz
              go_wp2_with fail
              go_meet
              exact ⟨rfl, _, en, rfl, rfl, hen, HFSZ.out, hFSd.out, HR.out⟩
          · have hdf : Lib.hasPrefix (l.drop pt) [46] = false := Bool.eq_false_iff.2 hdot
            have HR : Hid (parseR l = parseEnd ng DS (⟨#[]⟩ : ByteArray).data.toList (l.drop pt) pt) := by
              show _ = _
              rw [parseR, if_neg (by omega), HK.out, ← HA.out, if_neg ha0, ← HPT.out, if_neg hdot, HNG.out, ← HDS.out]
            rw [hdf]
            clear hdot hdf
            go_wp2_with fail
            go_meet
            exact ⟨rfl, ⟨#[]⟩, pt, rfl, rfl, hpt2, Nat.zero_le _, fun c hc => by simp at hc, HR.out⟩
        case rest =>
          obtain ⟨rfl, FS, en, rfl, rfl, hen, hFSz, hFSd, hR⟩ := hcut.out
          have HR := hide hR
          have HFSD := hide hFSd
          clear hcut hR hFSd
          obtain ⟨OS, hOS⟩ : ∃ t : ByteArray, t = s.extract K pt ++ FS := ⟨_, rfl⟩
          have hexk : (s.extract K pt).data.toList = DS := by
            have h := ext_take s K a (by have := HPT.out; omega)
            rw [← HPT.out, ← HL.out, ← HDS.out] at h
            exact h
          have hDl : DS.length = a := by rw [HDS.out, List.length_take, List.length_drop]; omega
          have hexz : (s.extract K pt).size ≤ 4000 := by
            rw [Lib.size_eq, hexk, hDl]
            omega
          have hOSl : OS.data.toList = DS ++ FS.data.toList := by
            rw [hOS, ByteArray.data_append, Array.toList_append, hexk]
          have hOSz : 0 < OS.size ∧ OS.size ≤ 8000 := by
            rw [Lib.size_eq, hOSl, List.length_append, hDl]
            have hz := hFSz
            rw [Lib.size_eq FS] at hz
            omega
          obtain ⟨hOS1, hOS2⟩ := hOSz
          have hOSd : Hid (∀ c ∈ OS.data.toList, isD c = true) := by
            intro c hc
            rw [hOSl] at hc
            rcases List.mem_append.1 hc with hc | hc
            · rw [HDS.out, HA.out] at hc
              exact (run_take (l.drop K)).1 c hc
            · exact HFSD.out c hc
          obtain ⟨D, hD⟩ : ∃ D, D = decL OS.data.toList := ⟨_, rfl⟩
          have HD : Hid (D = decL (DS ++ FS.data.toList)) := by show _ = _; rw [hD, hOSl]
          clear hOSl hexk hDl
          go_wp2_with fail
          rw [← hOS]
          refine (setString_at W.heap.size 0 false (.slice none 0 0) OS _ (newBox W) hOS1 (by omega) hOSd.out).mono ?_
          intro e w2 hE
          obtain ⟨rfl, p1, p2, p3⟩ := hE
          rw [← hD] at p2
          have P2 := hide p2
          have G2 : Hid (W.grownBy w2 none) := gr_of_put (gr_alloc (gr_refl _ _) _) p1 (Nat.le_refl _)
          clear p1 p2 p3 hD hOS
          go_wp2_with fail
          refine (setInt_at w2.heap.size W.heap.size 0 false false (.slice none 0 0) (.slice none 0 0) (D : Int) (3 * OS.size + 2) _ (newRatB w2).1 (newRatB w2).2 ((P2.out.mono (by omega)).keep0 (gr_alloc (gr_refl _ _) _)) (by omega) (by omega)).mono ?_
          rintro e w3 ⟨rfl, r1, r2⟩
          have R2 := hide r2
          have G3 : Hid (W.grownBy w3 none) := gr_none G2.out (gr_rput (gr_alloc (gr_refl _ _) _) r1 (Nat.le_refl _))
          clear r1 r2
          go_wp2_with fail
          refine (rTen_at (-(FS.size : Int)) _ (by omega) (by omega)).mono ?_
          rintro e w4 ⟨bt, rfl, t1, t2⟩
          have T1 := hide t1
          have G4 := hide (gr_none G3.out t2)
          have R4 := hide (R2.out.keep0 t2)
          clear t1 t2
          go_wp2_with fail
          refine (rMul_at w2.heap.size bt _ _ _ _ _ R4.out T1.out (by omega)).mono ?_
          rintro e w5 ⟨bv, rfl, v1, v2, v3⟩
          have V5 := hide v1
          have G5 := hide (gr_none G4.out v2)
          clear v1 v2 v3
          obtain ⟨q0, hq0⟩ : ∃ q, q = numQ ng D (FS.size : Int) := ⟨_, rfl⟩
          have HVAL : Hid (∀ p : Int, q0 * (10 : Rat) ^ p = decQ ng DS FS.data.toList p) := by
            intro p
            rw [hq0, decQ, ← HD.out, ← Lib.size_eq]
            exact numQ_at ng D _ p
          have HQ0 := hide hq0
          clear hq0
          go_upto_if 99 with fail
          go_cut [15] (fun s15 wx => Hid (∃ b6, s15 = .pointer (some ⟨b6, 0, none⟩) ∧ RQ wx b6 q0 200000 ∧ W.grownBy wx none))
          case first =>
            by_cases hk1 : K = 1
            · have hkb : (((K : Nat) : Int) == 1) = true := beq_iff_eq.2 (by omega)
              have hgn : ng = true := by
                have := HK2.out
                by_cases hh : ng = true
                · exact hh
                · rw [if_neg hh] at this; omega
              have hqq : Hid (q0 = -(((D : Int) : Rat) * (10 : Rat) ^ (-(FS.size : Int)))) := by show _ = _; rw [HQ0.out, hgn]; rfl
              clear hk1 hgn
              go_wp2_with fail
              refine (rNeg_at bv _ _ _ V5.out (by omega)).mono ?_
              rintro e w6 ⟨b6, rfl, n1, n2, n3⟩
              have V6 := hide n1
              have G6 := hide (gr_none G5.out n2)
              clear n1 n2 n3
              go_wp2_with fail
              go_meet
              exact ⟨b6, rfl, by rw [hqq.out]; exact V6.out.mono (by omega), G6.out⟩
            · have hkb : (((K : Nat) : Int) == 1) = false := beq_eq_false_iff_ne.2 (by omega)
              have hgn : ng = false := by
                have := HK2.out
                cases hh : ng with
                | false => rfl
                | true => rw [hh, if_pos rfl] at this; omega
              have hqq : Hid (q0 = ((D : Int) : Rat) * (10 : Rat) ^ (-(FS.size : Int))) := by show _ = _; rw [HQ0.out, hgn]; rfl
              clear hk1 hgn
              go_wp2_with fail
              go_meet
              exact ⟨bv, rfl, by rw [hqq.out]; exact V5.out.mono (by omega), G5.out⟩
          case rest =>
            obtain ⟨w6, hw6⟩ : ∃ x, x = wc := ⟨_, rfl⟩
            obtain ⟨b6, rfl, vq, g6⟩ := hcut.out
            rw [← hw6] at vq g6 ⊢
            clear hcut hw6
            have VQ := hide vq
            have G6 := hide g6
            clear vq g6
            have HRD := hide (cut_bytes s en hen)
            obtain ⟨RS, hRS⟩ : ∃ t : ByteArray, t = s.extract en s.size := ⟨_, rfl⟩
            have hRSl : Hid (RS.data.toList = l.drop en) := by rw [hRS, HL.out]; exact HRD.out.1
            have hRSz : RS.size ≤ 4000 := by rw [hRS, HRD.out.2]; omega
            have HRS := hide hRS.symm
            clear hRS
            obtain ⟨bm, es, clock, m1, m2, m3, m4, m5⟩ := (HPM.out.keep0 GW.out).keep0 G6.out
            obtain ⟨bm2, u1, u2, u3⟩ := (HUM.out.keep0 GW.out).keep0 G6.out
            obtain ⟨zs, _, _, _, _⟩ := SC.out w6 G6.out
            obtain ⟨WA, hWA⟩ : ∃ WA, WA = w6.alloc (Obj.cells #[.bool false, .bool true] 4) := ⟨_, rfl⟩
            have GA : Hid (w6.grownBy WA none) := by rw [hWA]; exact gr_alloc (gr_refl w6 none) _
            have BC : Hid (∀ wx, WA.grownBy wx none → wx.cell? ⟨w6.heap.size, 0, none⟩ = some (.bool false) ∧ wx.cell? ⟨w6.heap.size, 1, none⟩ = some (.bool true) ∧ wx.cell? ⟨0, 0, none⟩ = some (.map (some bm)) ∧ wx.cell? ⟨1, 0, none⟩ = some (.map (some bm2)) ∧ wx.heap[bm]? = some (.map es clock) ∧ wx.heap[bm2]? = w6.heap[bm2]?) := by
              intro wx hg
              rw [hWA] at hg
              have e2 : wx.heap[w6.heap.size]? = some (Obj.cells #[.bool false, .bool true] 4 (0, 0)) := by
                rw [hg.block w6.heap.size (by simp) (by simp)]
                exact heap_alloc_new w6 _
              have x1 : wx.cell? ⟨w6.heap.size, 0, none⟩ = some (.bool false) := by simp [World.cell?, e2]
              have x2 : wx.cell? ⟨w6.heap.size, 1, none⟩ = some (.bool true) := by simp [World.cell?, e2]
              have g := gr_none (gr_alloc (gr_refl w6 none) _) hg
              exact ⟨x1, x2, g.cell m1 (by simp), g.cell u1 (by simp), by rw [g.block bm (Array.getElem?_eq_some_iff.1 m2).1 (by simp)]; exact m2, g.block bm2 u2 (by simp)⟩
            obtain ⟨b0, b1, c0, c1, hby, _⟩ := BC.out WA (gr_refl _ _)
            have hrg := run_range_map (P := Tryz.prog) WA 65 9 3 bm es clock Tryz.underlying65 hby
            have M3 := hide m3
            have M4 := hide m4
            have M5 := hide m5
            have U3 := hide u3
            have HBY := hide hby
            clear m1 m2 m3 m4 m5 u1 u3 hby
            go_wp2
            rw [← hWA, HRS.out]
            clear hWA
            refine wp_loop_rounds 3 ?_
            rw [rounds_succ]
            go_wp2
            go_loopw [] (fun wx => Seen WA es clock bm WA.heap.size RS.data.toList false wx) (fun wx => (leftOf es (wx.iterSeen WA.heap.size)).size)
            case atStart => exact seen_start (gr_refl _ _)
            case round =>
              rcases seen_next hrel HBY.out M3.out M4.out M5.out with ⟨hno, g7, hnx⟩ | ⟨PB, e, w7, hm, hnx, hen, g7, hse⟩
              · have HNO := hide hno
                have GX := hide g7
                obtain ⟨wr1, hwr1⟩ : ∃ x, x = wr := ⟨_, rfl⟩
                rw [← hwr1] at hnx GX ⊢
                clear hno g7 hwr1 hrel hrg
                obtain ⟨y0, y1, y2, y3, hby2, _⟩ := BC.out wr1 GX.out
                have hrg := run_range_map (P := Tryz.prog) wr1 65 9 3 bm es clock Tryz.underlying65 hby2
                clear hby2
                go_wp2
                rw [rounds_succ]
                go_wp2
                go_loopw [] (fun wx => Seen WA es clock bm wr1.heap.size RS.data.toList true wx) (fun wx => (leftOf es (wx.iterSeen wr1.heap.size)).size)
                case atStart => exact seen_start GX.out
                case round =>
                  rcases seen_next hrel HBY.out M3.out M4.out M5.out with ⟨hno, g7, hnx⟩ | ⟨PB, e, w7, hm, hnx, hen, g7, hse⟩
                  · have HNO2 := hide hno
                    have GX2 := hide g7
                    obtain ⟨wr2, hwr2⟩ : ∃ x, x = wr := ⟨_, rfl⟩
                    rw [← hwr2] at hnx GX2 ⊢
                    clear hno g7 hwr2 hrel hrg
                    have HPA : Hid (parseR l = ([], [], 1, (en : Int))) := by
                      show _ = _
                      rw [HR.out, parseEnd, ← hRSl.out, fits_all HNO.out HNO2.out]
                    go_wp2
                    rw [rounds_succ]
                    go_wp2_with fail
                    refine (bad_at (en : Int) _).mono ?_
                    rintro e w9 ⟨rfl, g9⟩
                    have G9 := hide (gr_none (gr_none (gr_none G6.out GA.out) GX2.out) g9)
                    obtain ⟨_, f0, f1, f2, f3⟩ := SC.out w9 G9.out
                    clear g9
                    rw [parV]
                    go_wp2
                    refine bodyPost_ret (v := parV ([], [], 1, (en : Int))) (by simp [results, Tryz.results7, go_sem, f0, f1, parV]) rfl ?_
                    rw [HPA.out]
                    exact ⟨rfl, gr_set (gr_set (gr_none GW.out G9.out) _ _ (by simp)) _ _ (by simp)⟩
                  · obtain ⟨TS, hTS⟩ : ∃ t : ByteArray, t = ⟨(Lib.trimPrefix RS.data.toList PB.data.toList).toArray⟩ := ⟨_, rfl⟩
                    have hTSz : TS.size ≤ 4000 := by
                      rw [hTS, size_of]
                      have := trimPrefix_le RS.data.toList PB.data.toList
                      rw [← Lib.size_eq] at this
                      omega
                    have hTSl : TS.data.toList = Lib.trimPrefix RS.data.toList PB.data.toList := by rw [hTS]
                    have hlk : ∀ n, (Instr.lookup 67 (.map (some bm2)) (.string TS) true).run Tryz.prog (w7.drewN n) = .ok (unitV TS.data.toList) (w7.drewN n) := fun n => U3.out (w7.drewN n) (BC.out w7 g7).2.2.2.2.2 TS hTSz
                    have hlk1 : (Instr.lookup 67 (.map (some bm2)) (.string TS) true).run Tryz.prog w7.drew = .ok (unitV TS.data.toList) w7.drew := hlk 1
                    clear hlk
                    have cu : w7.cell? ⟨1, 0, none⟩ = some (.map (some bm2)) := (BC.out w7 g7).2.2.2.1
                    have G7 := hide g7
                    have HSE := hide hse
                    have HTS := hide hTS
                    have HM := hide hm
                    clear g7 hse hTS hm hTSz
                    rw [hTSl, unitV] at hlk1
                    cases hu : unitR (Lib.trimPrefix RS.data.toList PB.data.toList) with
                    | none =>
                      rw [hu] at hlk1
                      simp only at hlk1
                      have NF : Hid (∀ u, ¬ Fits RS.data.toList true PB.data.toList e u) := by
                        rintro u ⟨_, _, _, h4⟩
                        rw [hu] at h4
                        simp at h4
                      go_wp2
                      go_region_with (go_at_call 13; refine (Tryz.strings_TrimPrefix RS PB _).mono ?_; rintro e w8 ⟨rfl, rfl⟩; rw [← HTS.out])
                      all_goals go_wp2
                      all_goals exact HSE.out 1 NF.out
                    | some u =>
                      rw [hu] at hlk1
                      simp only at hlk1
                      have HU := hide hu
                      clear hu
                      by_cases hp : Lib.hasPrefix RS.data.toList PB.data.toList = true
                      · by_cases hq : PB.data.toList = []
                        · have hpe : PB.toList.isEmpty = true := by rw [ByteArray.toList_eq, hq]; rfl
                          have FIT : Fits RS.data.toList true PB.data.toList e u := ⟨HM.out, hp, by rw [hq]; rfl, HU.out⟩
                          have hend : endR RS.data.toList = some (e, u) := by obtain ⟨rfl, hh⟩ := fits_true FIT; rw [fits_none HNO.out, hh]; rfl
                          have HPA : Hid (parseR l = (qtext (q0 * (10 : Rat) ^ e), u, 0, 0)) := by
                            show _ = _
                            rw [HR.out, parseEnd, ← hRSl.out, hend, HVAL.out e]
                          have he : -1000 ≤ e ∧ e ≤ 1000 := pw_le HM.out
                          obtain ⟨he1, he2⟩ := he
                          have HP := hide hp
                          clear FIT hend hq
                          go_wp2
                          go_region_with (go_at_call 13; refine (Tryz.strings_TrimPrefix RS PB _).mono ?_; rintro e w8 ⟨rfl, rfl⟩; rw [← HTS.out])
                          all_goals go_wp2_with fail
                          all_goals refine (Tryz.strings_HasPrefix RS PB _).mono ?_
                          all_goals rintro e w8 ⟨rfl, rfl⟩
                          all_goals rw [HP.out]
                          all_goals go_wp2_with fail
                          all_goals refine (rTen_at e _ (by omega) (by omega)).mono ?_
                          all_goals rintro e w9 ⟨bt2, rfl, t1, t2⟩
                          all_goals have T9 := hide t1
                          all_goals have G9 := hide (gr_none (gr_none GA.out (gr_none G7.out gr_drew1)) t2)
                          all_goals have V9 := hide (VQ.out.keep0 G9.out)
                          all_goals clear t1 t2
                          all_goals go_wp2_with fail
                          all_goals refine (rMul_at b6 bt2 _ _ _ _ _ V9.out T9.out (by omega)).mono ?_
                          all_goals rintro e w10 ⟨bv2, rfl, v1, v2, v3⟩
                          all_goals have V10 := hide v1
                          all_goals have G10 := hide (gr_none G9.out v2)
                          all_goals clear v1 v2 v3
                          all_goals go_wp2_with fail
                          all_goals refine (rT_at bv2 _ _ _ V10.out (by omega)).mono ?_
                          all_goals rintro e w11 ⟨rfl, g11⟩
                          all_goals have G11 := hide (gr_none G6.out (gr_none G10.out g11))
                          all_goals clear g11
                          all_goals obtain ⟨_, f0, f1, f2, f3⟩ := SC.out w11 G11.out
                          all_goals have G12 := hide (gr_none GW.out G11.out)
                          all_goals go_wp2
                          all_goals refine bodyPost_ret (v := parV (qtext (q0 * (10 : Rat) ^ e), u, 0, 0)) (by simp [results, Tryz.results7, go_sem, f0, f1, parV]) rfl ?_
                          all_goals rw [HPA.out]
                          all_goals exact ⟨rfl, gr_set (gr_set G12.out _ _ (by simp)) _ _ (by simp)⟩
                        · have hpe : PB.toList.isEmpty = false := isEmpty_no hq
                          have NF : Hid (∀ u, ¬ Fits RS.data.toList true PB.data.toList e u) := by
                            rintro u ⟨_, _, h3, _⟩
                            have hx : PB.data.toList.isEmpty = false := by cases hc : PB.data.toList with | nil => exact absurd hc hq | cons _ _ => rfl
                            rw [hx] at h3
                            simp at h3
                          have HP := hide hp
                          clear hq
                          go_wp2
                          go_region_with (go_at_call 13; refine (Tryz.strings_TrimPrefix RS PB _).mono ?_; rintro e w8 ⟨rfl, rfl⟩; rw [← HTS.out])
                          all_goals go_wp2_with fail
                          all_goals refine (Tryz.strings_HasPrefix RS PB _).mono ?_
                          all_goals rintro e w8 ⟨rfl, rfl⟩
                          all_goals rw [HP.out]
                          all_goals go_wp2
                          all_goals exact HSE.out 1 NF.out
                      · have hp2 : Lib.hasPrefix RS.data.toList PB.data.toList = false := by cases hc : Lib.hasPrefix RS.data.toList PB.data.toList with | true => exact absurd hc hp | false => rfl
                        have NF : Hid (∀ u, ¬ Fits RS.data.toList true PB.data.toList e u) := by
                          rintro u ⟨_, h2, _, _⟩
                          exact hp h2
                        have HP := hide hp2
                        clear hp hp2
                        go_wp2
                        go_region_with (go_at_call 13; refine (Tryz.strings_TrimPrefix RS PB _).mono ?_; rintro e w8 ⟨rfl, rfl⟩; rw [← HTS.out])
                        all_goals go_wp2_with fail
                        all_goals refine (Tryz.strings_HasPrefix RS PB _).mono ?_
                        all_goals rintro e w8 ⟨rfl, rfl⟩
                        all_goals rw [HP.out]
                        all_goals go_wp2
                        all_goals exact HSE.out 1 NF.out
              · obtain ⟨TS, hTS⟩ : ∃ t : ByteArray, t = ⟨(Lib.trimPrefix RS.data.toList PB.data.toList).toArray⟩ := ⟨_, rfl⟩
                have hTSz : TS.size ≤ 4000 := by
                  rw [hTS, size_of]
                  have := trimPrefix_le RS.data.toList PB.data.toList
                  rw [← Lib.size_eq] at this
                  omega
                have hTSl : TS.data.toList = Lib.trimPrefix RS.data.toList PB.data.toList := by rw [hTS]
                have hlk : ∀ n, (Instr.lookup 67 (.map (some bm2)) (.string TS) true).run Tryz.prog (w7.drewN n) = .ok (unitV TS.data.toList) (w7.drewN n) := fun n => U3.out (w7.drewN n) (BC.out w7 g7).2.2.2.2.2 TS hTSz
                have hlk1 : (Instr.lookup 67 (.map (some bm2)) (.string TS) true).run Tryz.prog w7.drew = .ok (unitV TS.data.toList) w7.drew := hlk 1
                clear hlk
                have cu : w7.cell? ⟨1, 0, none⟩ = some (.map (some bm2)) := (BC.out w7 g7).2.2.2.1
                have G7 := hide g7
                have HSE := hide hse
                have HTS := hide hTS
                have HM := hide hm
                clear g7 hse hTS hm hTSz
                rw [hTSl, unitV] at hlk1
                cases hu : unitR (Lib.trimPrefix RS.data.toList PB.data.toList) with
                | none =>
                  rw [hu] at hlk1
                  simp only at hlk1
                  have NF : Hid (∀ u, ¬ Fits RS.data.toList false PB.data.toList e u) := by
                    rintro u ⟨_, _, _, h4⟩
                    rw [hu] at h4
                    simp at h4
                  go_wp2
                  go_region_with (go_at_call 13; refine (Tryz.strings_TrimPrefix RS PB _).mono ?_; rintro e w8 ⟨rfl, rfl⟩; rw [← HTS.out])
                  all_goals go_wp2
                  all_goals exact HSE.out 1 NF.out
                | some u =>
                  rw [hu] at hlk1
                  simp only at hlk1
                  have HU := hide hu
                  clear hu
                  by_cases hp : Lib.hasPrefix RS.data.toList PB.data.toList = true
                  · by_cases hq : PB.data.toList = []
                    · have hpe : PB.toList.isEmpty = true := by rw [ByteArray.toList_eq, hq]; rfl
                      have NF : Hid (∀ u, ¬ Fits RS.data.toList false PB.data.toList e u) := by
                        rintro u ⟨_, _, h3, _⟩
                        have hx : PB.data.toList.isEmpty = true := by rw [hq]; rfl
                        rw [hx] at h3
                        simp at h3
                      have HP := hide hp
                      clear hq
                      go_wp2
                      go_region_with (go_at_call 13; refine (Tryz.strings_TrimPrefix RS PB _).mono ?_; rintro e w8 ⟨rfl, rfl⟩; rw [← HTS.out])
                      all_goals go_wp2_with fail
                      all_goals refine (Tryz.strings_HasPrefix RS PB _).mono ?_
                      all_goals rintro e w8 ⟨rfl, rfl⟩
                      all_goals rw [HP.out]
                      all_goals go_wp2
                      all_goals exact HSE.out 1 NF.out
                    · have hpe : PB.toList.isEmpty = false := isEmpty_no hq
                      have FIT : Fits RS.data.toList false PB.data.toList e u := ⟨HM.out, hp, by cases hc : PB.data.toList with | nil => exact absurd hc hq | cons _ _ => rfl, HU.out⟩
                      have hend : endR RS.data.toList = some (e, u) := fits_false FIT
                      have HPA : Hid (parseR l = (qtext (q0 * (10 : Rat) ^ e), u, 0, 0)) := by
                        show _ = _
                        rw [HR.out, parseEnd, ← hRSl.out, hend, HVAL.out e]
                      have he : -1000 ≤ e ∧ e ≤ 1000 := pw_le HM.out
                      obtain ⟨he1, he2⟩ := he
                      have HP := hide hp
                      clear FIT hend hq
                      go_wp2
                      go_region_with (go_at_call 13; refine (Tryz.strings_TrimPrefix RS PB _).mono ?_; rintro e w8 ⟨rfl, rfl⟩; rw [← HTS.out])
                      all_goals go_wp2_with fail
                      all_goals refine (Tryz.strings_HasPrefix RS PB _).mono ?_
                      all_goals rintro e w8 ⟨rfl, rfl⟩
                      all_goals rw [HP.out]
                      all_goals go_wp2_with fail
                      all_goals refine (rTen_at e _ (by omega) (by omega)).mono ?_
                      all_goals rintro e w9 ⟨bt2, rfl, t1, t2⟩
                      all_goals have T9 := hide t1
                      all_goals have G9 := hide (gr_none (gr_none GA.out (gr_none G7.out gr_drew1)) t2)
                      all_goals have V9 := hide (VQ.out.keep0 G9.out)
                      all_goals clear t1 t2
                      all_goals go_wp2_with fail
                      all_goals refine (rMul_at b6 bt2 _ _ _ _ _ V9.out T9.out (by omega)).mono ?_
                      all_goals rintro e w10 ⟨bv2, rfl, v1, v2, v3⟩
                      all_goals have V10 := hide v1
                      all_goals have G10 := hide (gr_none G9.out v2)
                      all_goals clear v1 v2 v3
                      all_goals go_wp2_with fail
                      all_goals refine (rT_at bv2 _ _ _ V10.out (by omega)).mono ?_
                      all_goals rintro e w11 ⟨rfl, g11⟩
                      all_goals have G11 := hide (gr_none G6.out (gr_none G10.out g11))
                      all_goals clear g11
                      all_goals obtain ⟨_, f0, f1, f2, f3⟩ := SC.out w11 G11.out
                      all_goals have G12 := hide (gr_none GW.out G11.out)
                      all_goals go_wp2
                      all_goals refine bodyPost_ret (v := parV (qtext (q0 * (10 : Rat) ^ e), u, 0, 0)) (by simp [results, Tryz.results7, go_sem, f0, f1, parV]) rfl ?_
                      all_goals rw [HPA.out]
                      all_goals exact ⟨rfl, gr_set (gr_set G12.out _ _ (by simp)) _ _ (by simp)⟩
                  · have hp2 : Lib.hasPrefix RS.data.toList PB.data.toList = false := by cases hc : Lib.hasPrefix RS.data.toList PB.data.toList with | true => exact absurd hc hp | false => rfl
                    have NF : Hid (∀ u, ¬ Fits RS.data.toList false PB.data.toList e u) := by
                      rintro u ⟨_, h2, _, _⟩
                      exact hp h2
                    have HP := hide hp2
                    clear hp hp2
                    go_wp2
                    go_region_with (go_at_call 13; refine (Tryz.strings_TrimPrefix RS PB _).mono ?_; rintro e w8 ⟨rfl, rfl⟩; rw [← HTS.out])
                    all_goals go_wp2_with fail
                    all_goals refine (Tryz.strings_HasPrefix RS PB _).mono ?_
                    all_goals rintro e w8 ⟨rfl, rfl⟩
                    all_goals rw [HP.out]
                    all_goals go_wp2
                    all_goals exact HSE.out 1 NF.out
end Go.Proofs.YtgdiepfknfnmjaaGreatDoor
