/- The reference's polynomials: at, cut, Times, Texts. -/
import Derived.Test.YtklkpkkjakllfaaGreatDoorXKe
import Derived.Test.YtklkpkkjakllfaaGreatDoorXKd
import Derived.Test.YtklkpkkjakllfaaGreatDoorXTd
set_option linter.unusedVariables false
set_option linter.unusedSimpArgs false
set_option maxHeartbeats 16000000
set_option maxRecDepth 10000
namespace Go.Proofs.YtklkpkkjakllfaaGreatDoor
open Go.RowKit
theorem gr_cell {w w' : World} {a : Addr} {v : Value} (hg : w.grownBy w' none) (c : w.cell? a = some v) : w'.cell? a = some v := hg.cell c (by simp)
def RP (w : World) (v : Value) (n : Nat) (P : Nat → Rat) (L : Nat) : Prop :=
  ∃ g off cap, v = .slice (some ⟨g, off, none⟩) n cap ∧ n ≤ cap ∧ cap ≤ maxLen ∧ ∀ i, i < n → ∃ b, w.cell? ⟨g, off + i, none⟩ = some (.pointer (some ⟨b, 0, none⟩)) ∧ RV w b (P i) L
theorem RP.keep0 {w w' : World} {v : Value} {n : Nat} {P : Nat → Rat} {L : Nat} (h : RP w v n P L) (hg : w.grownBy w' none) : RP w' v n P L := by
  obtain ⟨g, off, cap, e, h1, h2, h3⟩ := h
  refine ⟨g, off, cap, e, h1, h2, fun i hi => ?_⟩
  obtain ⟨b, c, r⟩ := h3 i hi
  exact ⟨b, gr_cell hg c, r.keep0 hg⟩
theorem at_at (v : Value) (n : Nat) (P : Nat → Rat) (L : Nat) (z : Int) (i : Nat) (w : World) (h : RP w v n P L) (hz : z = (i : Int)) (hP : ∀ j, n ≤ j → P j = 0) (h4 : 4 ≤ L) (hi : i ≤ 1000000) (hn : n ≤ 1000000) :
    Calls Tryz.prog 28 #[v, .int .i64 z] w fun e w' => ∃ b, e = .returned (.pointer (some ⟨b, 0, none⟩)) ∧ RV w' b (P i) L ∧ w.grownBy w' none := by
  subst hz
  obtain ⟨g, off, cap, rfl, h1, h2, h3⟩ := h
  unfold maxLen at h2
  by_cases hlt : i < n
  · obtain ⟨b, c0, r⟩ := h3 i hlt
    have R := hide r
    have h0 : (0 : Int) ≤ (i : Int) := by omega
    have hl : (i : Int) < (n : Int) := by omega
    clear h3 r hP
    go_enter Tryz.func28, Tryz.ntmps28
    go_wp2
    go_ret
    exact ⟨b, rfl, R.out, gr_refl _ _⟩
  · have hz := hide (hP i (by omega))
    have h0 : (0 : Int) ≤ (i : Int) := by omega
    have hl : ¬ (i : Int) < (n : Int) := by omega
    clear h3 hP
    go_enter Tryz.func28, Tryz.ntmps28
    go_wp2_with fail
    refine (rN_at 0 w (by decide) (by decide)).mono ?_
    rintro e w1 ⟨b, rfl, p, g1, _⟩
    have PB := hide (p.mono h4)
    have G1 := hide g1
    clear p g1
    go_wp2
    go_ret
    exact ⟨b, rfl, by rw [hz.out]; exact PB.out.v, G1.out⟩
theorem rcut_at (v : Value) (n : Nat) (P : Nat → Rat) (L : Nat) (w : World) (h : RP w v n P L) (h0 : 0 < n) (hl : P (n - 1) ≠ 0) (hn : n ≤ 1000000) :
    Calls Tryz.prog 29 #[v] w fun e w' => e = .returned v ∧ w' = w := by
  obtain ⟨g, off, cap, rfl, h1, h2, h3⟩ := h
  unfold maxLen at h2
  obtain ⟨k, hk⟩ : ∃ k, k = n - 1 := ⟨_, rfl⟩
  obtain ⟨b, c0, r⟩ := h3 k (by omega)
  rw [← hk] at hl
  have R := hide r
  have hwk : IntKind.i64.wrap ((n : Int) - 1) = (k : Int) := by rw [IntWalk.i64_in _ ⟨by omega, by omega⟩]; omega
  have i0 : (0 : Int) ≤ (k : Int) := by omega
  have i1 : (k : Int) < (n : Int) := by omega
  have hn0 : (0 : Int) < (n : Int) := by omega
  obtain ⟨sg, hsg⟩ : ∃ x, x = (P k).num.sign := ⟨_, rfl⟩
  have hsz : (sg == 0) = false := by
    rw [hsg, beq_eq_false_iff_ne]
    intro e
    exact hl (Rat.num_eq_zero.1 (Int.sign_eq_zero_iff_zero.1 e))
  have HK := hide hk
  have HSG := hide hsg
  clear h3 r hk hl hsg
  go_enter Tryz.func29, Tryz.ntmps29
  go_wp2
  go_loopw [0] (fun v0 wr => Hid (v0 = .slice (some ⟨g, off, none⟩) n cap ∧ wr = w)) (fun _ _ => 0)
  case atStart => exact ⟨rfl, rfl⟩
  case round =>
    obtain ⟨rfl, rfl⟩ := hrel.out
    clear hrel
    go_wp2_with fail
    refine (rSignV_at b (P k) L _ R.out).mono ?_
    rintro e w1 ⟨rfl, hw1⟩
    rw [hw1, ← HSG.out]
    clear hw1
    go_wp2
    go_ret
    exact ⟨rfl, rfl⟩
def InR (w0 : World) (P Q : Nat → Rat) (k B : Nat) (sv iv : Value) (wr : World) : Prop := ∃ (i b : Nat), i ≤ k + 1 ∧ iv = .int .i64 (i : Int) ∧ sv = .pointer (some ⟨b, 0, none⟩) ∧ RV wr b (K.cnvS P Q k i) (4 + i * B) ∧ w0.grownBy wr none
def TimR (w0 : World) (P Q : Nat → Rat) (KK N : Nat) (ov kv : Value) (wr : World) : Prop := ∃ (k : Nat) (bs : List Nat), k ≤ N ∧ kv = .int .i64 (k : Int) ∧ bs.length = k ∧ OwnPt wr w0.heap.size ov bs ∧ w0.grownBy wr none ∧ (∀ j (h : j < bs.length), RV wr bs[j] (K.cnv P Q j) KK) ∧ (bs.length = 0 → ov.ownBlock = none)
theorem ownPt_nil {w : World} {base : Nat} : OwnPt w base (.slice none 0 0) [] := ⟨ownG_nil, NoWv.nil w⟩
theorem OwnPt.shape {w : World} {base : Nat} {v : Value} {xs : List Nat} (h : OwnPt w base v xs) : ∃ ao cap, v = .slice ao xs.length cap := h.1.shape
theorem OwnPt.rp {w : World} {base n : Nat} {v : Value} {bs : List Nat} {P : Nat → Rat} {L : Nat} (h : OwnPt w base v bs) (hn : bs.length = n) (h0 : 0 < n) (hr : ∀ j (h : j < bs.length), RV w bs[j] (P j) L) : RP w v n P L := by
  obtain ⟨ao, cap, e, h1, h2, h3⟩ := h.1.row
  obtain ⟨b, off, e0, _, _⟩ := h3 0 (by omega)
  refine ⟨b, off, cap, by rw [e, e0, hn], by omega, h2, fun i hi => ?_⟩
  obtain ⟨b', off', e1, _, c⟩ := h3 i (by omega)
  rw [e0] at e1
  simp only [Option.some.injEq, Addr.mk.injEq] at e1
  obtain ⟨rfl, rfl, _⟩ := e1
  exact ⟨bs[i], c, hr i (by omega)⟩
theorem times_at (v u : Value) (n m : Nat) (P Q : Nat → Rat) (KK L M : Nat) (w : World) (hp : RP w v n P L) (hq : RP w u m Q M) (hn : 0 < n) (hm : 0 < m) (hn2 : n ≤ 100) (hm2 : m ≤ 100) (hP : ∀ j, n ≤ j → P j = 0) (hQ : ∀ j, m ≤ j → Q j = 0)
    (hlast : K.cnv P Q (n + m - 2) ≠ 0) (hf : ∀ k, FitW KK (K.cnv P Q k)) (hL4 : 4 ≤ L) (hM4 : 4 ≤ M) (hL : L + M ≤ 1000000000) :
    Calls Tryz.prog 8 #[v, u] w fun e w' => ∃ v', e = .returned v' ∧ RP w' v' (n + m - 1) (K.cnv P Q) KK ∧ w.grownBy w' none := by
  have HP := hide hp
  have HQ := hide hq
  have HPz := hide hP
  have HQz := hide hQ
  have HL := hide hlast
  have HF := hide hf
  obtain ⟨N, hN⟩ : ∃ N, N = n + m - 1 := ⟨_, rfl⟩
  obtain ⟨g, off, cap, rfl, h1, h2, _⟩ := hp
  obtain ⟨g', off', cap', rfl, h1', h2', _⟩ := hq
  unfold maxLen at h2 h2'
  have hN1 : N = n + m - 1 := hN
  have HN := hide hN
  have hwN : IntKind.i64.wrap ((n : Int) + (m : Int) - 1) = (N : Int) := by rw [IntWalk.i64_in _ ⟨by omega, by omega⟩]; omega
  have hNs : N ≤ 200 := by omega
  have hN0 : 0 < N := by omega
  have hn0 : (0 : Int) < (n : Int) := by omega
  have hm0 : (0 : Int) < (m : Int) := by omega
  clear hP hQ hlast hf hN hN1
  rw [← HN.out]
  go_enter Tryz.func8, Tryz.ntmps8
  go_wp2
  go_loopw [5, 6] (fun ov kv wr => Hid (TimR w P Q KK N ov kv wr)) (fun _ kv _ => N - (intOf kv).toNat)
  case atStart => exact ⟨0, [], Nat.zero_le _, rfl, rfl, ownPt_nil, gr_refl _ _, fun j h => absurd h (Nat.not_lt_zero _), fun _ => rfl⟩
  case round =>
    obtain ⟨k, bs, hk, rfl, hbl, hown, hgr, hnum, hnil⟩ := hrel.out
    obtain ⟨ao, oc, rfl⟩ := hown.shape
    rw [hbl] at hown hnil ⊢
    have HOWN := hide hown
    have HNIL := hide hnil
    clear hnil
    have HGR := hide hgr
    have HNUM := hide hnum
    have HBL := hide hbl
    clear hrel hown hgr hnum hbl
    obtain ⟨wO, hwo⟩ : ∃ x, x = wr := ⟨_, rfl⟩
    obtain rfl := hwo
    by_cases hlt : k < N
    · have hlI : (k : Int) < (N : Int) := by omega
      go_wp2_with fail
      refine (rN_at 0 wO (by decide) (by decide)).mono ?_
      rintro e w1 ⟨b0, rfl, p0, g1, _⟩
      have P0 := hide p0
      have G1 := hide g1
      clear p0 g1
      go_wp2
      go_loopw [7, 8] (fun sv iv wr => Hid (InR w1 P Q k (L + M + 5) sv iv wr)) (fun _ iv _ => k + 1 - (intOf iv).toNat)
      case atStart => exact ⟨0, b0, Nat.zero_le _, rfl, rfl, (P0.out.mono (by omega)).v, gr_refl _ _⟩
      case round =>
        obtain ⟨i, b, hi, rfl, rfl, hs, hgi⟩ := hrel.out
        have HS := hide hs
        have HGI := hide hgi
        have GA := hide (gr_none HGR.out (gr_none G1.out hgi))
        clear hrel hs hgi
        by_cases hil : i ≤ k
        · have hiI : (i : Int) ≤ (k : Int) := by omega
          have hdi : decide (i ≤ k) = true := decide_eq_true hil
          have hib : i * (L + M + 5) ≤ 200 * (1000000000 + 5) := Nat.mul_le_mul (by omega) (by omega)
          have hwi : IntKind.i64.wrap ((k : Int) - (i : Int)) = ((k - i : Nat) : Int) := by rw [IntWalk.i64_in _ ⟨by omega, by omega⟩]; omega
          go_wp2_with fail
          refine (at_at _ n P L _ i _ (HP.out.keep0 GA.out) rfl HPz.out hL4 (by omega) (by omega)).mono ?_
          rintro e w2 ⟨b2, rfl, p2, g2⟩
          have P2 := hide p2
          have G2 := hide g2
          clear p2 g2
          go_wp2_with fail
          refine (at_at _ m Q M _ (k - i) _ ((HQ.out.keep0 GA.out).keep0 G2.out) (by first | rfl | omega) HQz.out hM4 (by omega) (by omega)).mono ?_
          rintro e w3 ⟨b3, rfl, p3, g3⟩
          have P3 := hide p3
          have P2' := hide (P2.out.keep0 g3)
          have G3 := hide (gr_none G2.out g3)
          clear p3 g3 P2 G2
          go_wp2_with fail
          refine (rMulX_at b2 b3 (P i) (Q (k - i)) L M w3 (P2'.out.x (by omega)) (P3.out.x (by omega)) (by omega)).mono ?_
          rintro e w4 ⟨b4, rfl, p4, g4, _⟩
          have P4 := hide p4
          have G4 := hide (gr_none G3.out g4)
          clear p4 g4 P2' P3 G3
          go_wp2_with fail
          refine (rAdd_at b b4 (K.cnvS P Q k i) (P i * Q (k - i)) (4 + i * (L + M + 5)) (L + M + 2) w4 ((HS.out.keep0 G4.out).x (by omega)) P4.out.x (by omega)).mono ?_
          rintro e w5 ⟨b5, rfl, p5, g5, _⟩
          have P5 := hide (p5.mono (show _ ≤ 4 + (i + 1) * (L + M + 5) by rw [Nat.add_mul]; omega))
          have G5 := hide (gr_none HGI.out (gr_none G4.out g5))
          clear p5 g5 P4 G4
          go_wp2
          go_roundw
          case rel => exact ⟨i + 1, b5, by omega, by go_num, rfl, P5.out.v, G5.out⟩
          case measure => simp [intOf]; omega
        · have hiI : (k : Int) < (i : Int) := by omega
          have hdi : decide (i ≤ k) = false := decide_eq_false hil
          have hie : i = k + 1 := by omega
          have hval : K.cnvS P Q k i = K.cnv P Q k := by rw [hie]; rfl
          have PS := hide ((hval ▸ HS.out).tight (HF.out k))
          have hsz : w.heap.size ≤ wr.heap.size := GA.out.size
          have HOQ := hide ((HOWN.out.keep0 G1.out).keep0 (gr_alloc HGI.out (Obj.cells #[.pointer (some ⟨b, 0, none⟩)] 26)))
          clear hie hval HS
          go_wp2_with (at_builtin; refine wpList_append_pt _ rfl _ _ 30 rfl w.heap.size Tryz.underlying30 Tryz.infoPR _ bs rfl HOQ.out wr.heap.size b rfl (show _ = some (Value.pointer (some ⟨b, 0, none⟩)) by go_simp) (by have := HBL.out; omega) (by simp; omega) ?_)
          intro ao2 cap2 w9 o9 g9 k9
          have O9 := hide o9
          have K9 := hide k9
          have hle9 : ∀ q, (Value.slice ao k oc).ownBlock = some q → w.heap.size ≤ q := fun q e => (HOQ.out.1.fresh q e).1
          have G9 : Hid (w.grownBy w9 none) := gr_trans (r := none) (gr_alloc GA.out _) g9 (fun _ _ e => e) (fun q hq e => by have := hle9 q e.symm; omega)
          have N9 : Hid (∀ x (h : x < (bs ++ [b]).length), RV w9 (bs ++ [b])[x] (K.cnv P Q x) KK) := by
            intro x hx
            have ap : ∀ {y : Nat} {q : Rat} {l : Nat}, RV (wr.alloc (Obj.cells #[.pointer (some ⟨b, 0, none⟩)] 26)) y q l → some y ≠ (Value.slice ao k oc).ownBlock := by
              intro y q l hr
              rcases Nat.eq_zero_or_pos bs.length with hz | hpos
              · rw [HNIL.out (HBL.out ▸ hz)]
                simp
              · exact HOQ.out.apart hpos hr
            by_cases hxl : x < bs.length
            · rw [List.getElem_append_left hxl]
              have h1 := ((HNUM.out x hxl).keep0 G1.out).keep0 (gr_alloc HGI.out (Obj.cells #[.pointer (some ⟨b, 0, none⟩)] 26))
              exact h1.keptO g9 K9.out (ap h1)
            · have hxe : x = k := by have := HBL.out; simp at hx; omega
              have hge : bs.length ≤ x := by omega
              rw [List.getElem_append_right hge]
              have e0 : x - bs.length = 0 := by have := HBL.out; omega
              simp only [e0, List.getElem_cons_zero]
              rw [hxe]
              have h1 := PS.out.keep0 (gr_alloc (gr_refl _ none) (Obj.cells #[.pointer (some ⟨b, 0, none⟩)] 26))
              exact h1.keptO g9 K9.out (ap h1)
          clear o9 g9 k9 hle9
          rw [HBL.out]
          go_wp2
          go_roundw
          case rel => exact ⟨k + 1, bs ++ [b], by omega, by go_num, by simp [HBL.out], (HBL.out ▸ O9.out), G9.out, N9.out, fun h => by simp at h⟩
          case measure => simp [intOf]; omega
    · have hlI : ¬ (k : Int) < (N : Int) := by omega
      have hke : k = N := by omega
      have RPO := hide (HOWN.out.rp (HBL.out.trans hke) hN0 HNUM.out)
      have hlz : K.cnv P Q (N - 1) ≠ 0 := by have := HL.out; rwa [show N - 1 = n + m - 2 by have := HN.out; omega]
      have HLZ := hide hlz
      subst hke
      clear hlz
      go_wp2_with fail
      refine (rcut_at _ k (K.cnv P Q) KK wO RPO.out (by omega) HLZ.out (by omega)).mono ?_
      rintro e w6 ⟨rfl, rfl⟩
      go_wp2
      go_ret
      exact ⟨_, rfl, RPO.out, HGR.out⟩
def TelK (W : World) (n : Nat) (R : Nat → Rat) (ov v : Value) (wr : World) : Prop :=
  ∃ i : Nat, i ≤ n ∧ v = .int .i64 (i : Int) ∧ OwnG sv 24 wr W.heap.size ov (textsL R i) ∧ W.grownBy wr none
theorem rTs_at (v : Value) (n : Nat) (P : Nat → Rat) (L : Nat) (w : World) (h : RP w v n P L) (hn : n ≤ 3000) (hL : L ≤ 100000000000) :
    Calls Tryz.prog 36 #[v] w fun e w' => ∃ v', e = .returned v' ∧ RowG sv w' v' (textsL P n) ∧ w.grownBy w' none := by
  obtain ⟨g, off, cap, rfl, h1, h2, h3⟩ := h
  unfold maxLen at h2
  have HC := hide h3
  clear h3
  go_enter Tryz.func36, Tryz.ntmps36
  go_wp2
  go_loopw [3, 8] (fun ov v wr => Hid (TelK w n P ov v wr)) (fun _ v _ => n - (intOf v).toNat)
  case atStart => exact ⟨0, Nat.zero_le _, rfl, ownG_nil, gr_refl _ _⟩
  case round =>
    obtain ⟨i, hi, rfl, l1, l2⟩ := hrel.out
    obtain ⟨oa, oc, rfl⟩ := l1.shape
    have L1 := hide l1
    have L2 := hide l2
    clear l1 l2 hrel
    by_cases hlt : i < n
    · obtain ⟨b, cb, rb⟩ := HC.out i hlt
      have c0 := gr_cell L2.out cb
      have R := hide (rb.keep0 L2.out)
      have i0 : (0 : Int) ≤ (i : Int) := by omega
      have i1 : (i : Int) < (n : Int) := by omega
      clear cb rb
      go_wp2_with fail
      refine (rTV_at b (P i) L _ R.out hL).mono ?_
      rintro e w3 ⟨rfl, g3⟩
      have G3 := hide g3
      clear g3 c0
      have hsz : w.heap.size ≤ w3.heap.size := Nat.le_trans L2.out.size G3.out.size
      go_wp2_with (at_builtin; refine wpList_append_g sv 24 (sv ⟨#[]⟩) 16 _ rfl _ _ 22 rfl w.heap.size Tryz.underlying22 Tryz.infoQ rfl _ (textsL P i) rfl (L1.out.keep0 (gr_alloc G3.out _)) w3.heap.size ⟨(qtext (P i)).toArray⟩ rfl (by go_simp) rfl (by rw [textsL_length]; omega) (by omega) (by simp; omega) ?_)
      intro ao cap w5 hown hgr
      have HO : Hid (OwnG sv 24 w5 w.heap.size (.slice ao ((textsL P i).length + 1) cap) (textsL P (i + 1))) := by rw [textsL_succ]; exact hown
      have HG : Hid (w.grownBy w5 none) := by
        refine gr_trans (r := none) (gr_none L2.out (gr_alloc G3.out _)) hgr (fun _ _ e => e) (fun b hb e => ?_)
        have := (L1.out.fresh b e.symm).1
        omega
      clear hown hgr
      go_wp2
      go_roundw
      case rel => exact ⟨i + 1, by omega, by go_num, HO.out, HG.out⟩
      case measure => simp [intOf]; omega
    · obtain rfl : i = n := by omega
      go_wp2
      go_ret
      exact ⟨_, rfl, L1.out.row, L2.out⟩
theorem texts_at (v : Value) (n : Nat) (P : Nat → Rat) (L : Nat) (w : World) (h : RP w v n P L) (hn : n ≤ 3000) (hL : L ≤ 100000000000) :
    Calls Tryz.prog 14 #[v] w fun e w' => ∃ v', e = .returned v' ∧ RowG sv w' v' (textsL P n) ∧ w.grownBy w' none := by
  have H := hide h
  obtain ⟨g, off, cap, rfl, h1, h2, h3⟩ := h
  clear h3
  unfold maxLen at h2
  go_enter Tryz.func14, Tryz.ntmps14
  go_wp2_with fail
  refine (rTs_at _ n P L w H.out hn hL).mono ?_
  rintro e w1 ⟨v1, rfl, r1, g1⟩
  have R1 := hide r1
  have G1 := hide g1
  obtain ⟨ao, c, rfl, _, _, _⟩ := r1
  clear g1
  go_wp2
  go_ret
  exact ⟨_, rfl, R1.out, G1.out⟩
end Go.Proofs.YtklkpkkjakllfaaGreatDoor
