/- frac: divide, the long way: the walk. -/
import Derived.Test.YtgdiepfknfnmjaaGreatDoorFDiv2
namespace Go.Proofs.YtgdiepfknfnmjaaGreatDoor
open Go.RowKit
set_option linter.unusedVariables false

/-- divide's loop. -/
def DivR (w : World) (gu gq : Nat) (dv : Value) (vs : List Nat) (N A : Nat) (iv : Value) (wr : World) : Prop :=
  ∃ z : Int, -1 ≤ z ∧ z + vs.length + 1 ≤ N ∧ iv = .int .i64 z ∧ Hid (Ws wr dv vs) ∧ Hid (∃ us qs, FDivInv w wr gu gq vs N A (z + 1).toNat us qs)

/-- One round's end. -/
theorem FDivInv.round {w wr wt : World} {gu gq : Nat} {vs : List Nat} {N A j g E : Nat} {us qs : List Nat} (h : FDivInv w wr gu gq vs N A (j + 1) us qs) (sv : Sm vs) (hgu : w.heap.size ≤ gu) (hgq : w.heap.size ≤ gq) (hne : gq ≠ gu) (hg1 : val (us.drop j) / val vs ≤ g) (hg2 : g ≤ val (us.drop j) / val vs + 1) (hgb : g < 4294967296)
    (ht : Taken wr wt gu us vs j g E) (hE : E ≤ 1) :
    (E = 0 → ∀ z : Int, z = (g : Int) → ∃ us2 qs2, FDivInv w (wt.setCell ⟨gq, j, none⟩ (.int .u32 z)) gu gq vs N A j us2 qs2) ∧
    (E = 1 → 1 ≤ g ∧ ∃ us1 R, Arr wt gu us1 ∧ Sm us1 ∧ us1.length = N ∧ val ((us1.drop j).take (vs.length + 1)) + val vs = R + 4294967296 ^ (vs.length + 1) ∧ R < 4294967296 ^ vs.length ∧
      (∀ wg, Given wt gu us1 vs j R wg → ∀ z : Int, z = ((g - 1 : Nat) : Int) → ∃ us2 qs2, FDivInv w (wg.setCell ⟨gq, j, none⟩ (.int .u32 z)) gu gq vs N A j us2 qs2)) := by
  have hh := h
  obtain ⟨i1, i2, i3, i4, i5, i6, i7, i8, i9⟩ := h
  have hpos : 0 < val vs := by omega
  obtain ⟨W, t1, t2, t3, t4, t5⟩ := ht
  obtain ⟨w1, w2, w3⟩ := win_val (us := us) (vs := vs) (j := j) sv i3 (by omega) i8
  rw [w1] at t5
  obtain ⟨d1, d2, d3, d4, d5⟩ := win_drop (us := us) (W := W) (j := j) (n := vs.length + 1) t1 (by omega) w3
  have sm : Sm (us.take j ++ W ++ us.drop (j + (vs.length + 1))) := ((i3.take j).append t2).append (i3.drop _)
  have hqlt : val (us.drop j) / val vs < 4294967296 := by rw [Nat.div_lt_iff_lt_mul hpos]; exact w2
  have a2 : Arr wt gq (List.replicate (j + 1) 0 ++ qs) := i6.keep t4 (fun e => hne (by simpa using e))
  refine ⟨fun e z hz => ?_, fun e => ?_⟩
  · obtain ⟨e1, e2⟩ := digit_right t5 e hg1 hpos
    exact ⟨_, _, hh.next hqlt (d1.trans i1) d2 (d3.trans e2) sm t3 a2 (gr_in i7 t4 hgu) hgq hne z (by rw [e1]; exact hz)⟩
  · have hWb := val_lt t2
    rw [t1] at hWb
    obtain ⟨e1, e2, e3⟩ := digit_over t5 e hg1 hg2 hWb hpos
    have hR := Nat.mod_lt (val (us.drop j)) hpos
    have hV := val_lt sv
    refine ⟨e2, _, val (us.drop j) % val vs, t3, sm, d1.trans i1, by rw [d4]; exact e3, by omega, ?_⟩
    intro wg hgv z hz
    obtain ⟨W2, k1, k2, k3, k4, k5⟩ := hgv
    rw [d2, d5] at k3
    obtain ⟨f1, f2, f3, f4, f5⟩ := win_drop (us := us) (W := W2) (j := j) (n := vs.length + 1) k1 (by omega) w3
    have sm2 : Sm (us.take j ++ W2 ++ us.drop (j + (vs.length + 1))) := ((i3.take j).append k2).append (i3.drop _)
    exact ⟨_, _, hh.next hqlt (f1.trans i1) f2 (f3.trans k5) sm2 k3 (a2.keep k4 (fun e => hne (by simpa using e))) (gr_in (gr_in i7 t4 hgu) k4 hgu) hgq hne z (by rw [e1]; exact hz)⟩

theorem divide_end {w w8 w9 : World} {gu gq : Nat} {q' r' : Value} {xs ys vs us qs : List Nat} {s : Nat} (V3 : val vs = val ys * 2 ^ s) (hd : FDivInv w w8 gu gq vs (xs.length + 1) (val xs * 2 ^ s) 0 us qs) (hv : vs.length = ys.length) (hyx : ys.length ≤ xs.length) (hgq : w.heap.size ≤ gq)
    (n1 : Num w9 q' (val qs) qs.length) (n2 : blockOf q' = some gq) (n5 : OwnN w9 w8.heap.size r' (val (us.take ys.length) / 2 ^ s) ys.length) (g9 : w8.grownBy w9 none) (hv0 : 0 < ys.length) (sv : Sm vs) : DividedO w (val xs) (val ys) xs.length (.returned (.tuple #[q', r'])) w9 := by
  obtain ⟨i1, i2, i3, i4, i5, i6, i7, i8, i9⟩ := hd
  simp only [List.take_zero, List.drop_zero, Nat.pow_zero, Nat.one_mul, val, Nat.zero_add] at i8 i9
  obtain ⟨m1, m2⟩ := div_end (val xs) (val ys) (2 ^ s) (val qs) (val us) (Nat.two_pow_pos s) (by rw [← V3]; exact i8) (by rw [← V3]; exact i9)
  have hVb := val_lt sv
  have ht := (high_zero us ys.length (val vs) i8 (by rw [← hv]; exact Nat.le_of_lt hVb) (by omega)).2
  rw [ht, m2] at n5
  refine ⟨q', r', rfl, by rw [← m1]; exact n1.mono (by omega), (n5.base i7.size).mono hyx, gr_none i7 g9, fun k hk => ?_⟩
  rw [n2] at hk
  cases hk
  exact hgq

set_option maxHeartbeats 4000000 in
set_option maxRecDepth 20000 in
theorem divide_main (va vb : Value) (xs ys : List Nat) (w : World) (ha : Ws w va xs) (hb : Ws w vb ys) (tx : Tr xs) (ty : Tr ys) (hy : 1 < ys.length) (hle : val ys ≤ val xs) (hl : xs.length ≤ 900000000) (hl2 : ys.length ≤ xs.length) :
    Calls Tryz.prog 78 #[va, vb] w fun e w' => DividedO w (val xs) (val ys) xs.length e w' := by
  obtain ⟨ao, ca, ea, hca, hca', Ha⟩ := ha.open
  obtain ⟨bo, cb, eb, hcb, hcb', Hb⟩ := hb.open
  unfold maxLen at hca' hcb'
  have hne2 : (((ys.length : Nat) : Int) == 1) = false := beq_eq_false_iff_ne.2 (by omega)
  obtain ⟨t, ht1, ht2⟩ := tr_top ty (by intro e; rw [e] at hy; simp at hy)
  obtain ⟨b, off, rfl, hbb, hcell⟩ := Hb (ys.length - 1) (by omega)
  rw [(List.getElem?_eq_some_iff.1 ht1).2] at hcell
  have htb : t < 4294967296 := by
    have := hb.sm.get (ys.length - 1) (by omega)
    rw [(List.getElem?_eq_some_iff.1 ht1).2] at this
    exact this
  obtain ⟨j1, j2, j3, j4⟩ := bitLen_at t ht2 htb
  obtain ⟨s, hs⟩ : ∃ s, s = 32 - Lib.bitLen t := ⟨_, rfl⟩
  have es : (32 - (Lib.bitLen t : Int)) = (s : Int) := by omega
  have hs32 : s < 32 := by omega
  have HT := hide (And.intro ht1 (And.intro j3 j4))
  have HJ := hide (And.intro j1 j2)
  have HS := hide hs
  have ES := hide es
  have WA := hide ha
  have WB := hide hb
  have TX := hide tx
  have TY := hide ty
  have HLE := hide hle
  subst ea eb
  clear Ha Hb ha hb tx ty hle ht1 j3 j4 j1 j2 hs es
  go_enter Tryz.func78, Tryz.ntmps78
  go_wp2_with fail
  refine (fcompare_ws _ _ xs ys _ WA.out WB.out TX.out TY.out).mono ?_
  rintro e w1 ⟨rfl, q1, rfl⟩
  have hord := ord_ge HLE.out
  generalize ord (val xs) (val ys) = o1 at hord ⊢
  go_wp2_with fail
  refine (Tryz.bits_LeadingZeros32 (t : Int) _ (by omega) (by omega)).mono ?_
  rintro e w2 ⟨rfl, rfl⟩
  rw [Int.toNat_natCast, ES.out]
  go_wp2_with fail
  refine (raise_ws _ xs s _ (WA.out.keep0 (gr_d _)) hs32 (by omega)).mono ?_
  rintro e w3 ⟨us, rfl, u1, u2, u3, u4, g3⟩
  have G3 := hide (gr_none (gr_d _) g3)
  have hgu : w.heap.size ≤ (w.drewN q1).heap.size := Nat.le_refl _
  generalize (w.drewN q1).heap.size = gu at *
  have U3 := hide u3
  have U2 := hide u2
  have U1 := hide u1
  have U4 := hide u4
  clear u1 u2 u3 u4 g3 ES
  go_wp2_with fail
  refine (raise_ws _ ys s _ (WB.out.keep0 G3.out) hs32 (by omega)).mono ?_
  rintro e w4 ⟨vr, rfl, v1, v2, v3, v4, g4⟩
  have hgv : gu < w3.heap.size := U3.out.lt
  generalize w3.heap.size = gv at *
  have G4 := hide (gr_none G3.out g4)
  have U34 := hide (U3.out.keep g4 (by simp))
  have hwv := v3.ws v2 (by rw [v1]; unfold maxLen; omega)
  rw [v1] at hwv
  have HWV := hide hwv
  have V1 := hide v1
  have V4 := hide v4
  clear v1 v2 v3 v4 g4 hwv G3 U3
  go_wp2_with fail
  refine (ftrim_num _ vr _ HWV.out).mono ?_
  rintro e w5 ⟨dv, rfl, rfl, ⟨vs, d1, d2, d3, d4⟩, d5⟩
  have hvv : val vs = val ys * 2 ^ s := by rw [d3]; exact V4.out
  obtain ⟨vlen, tt, htt, htb2⟩ := norm_top ys vs t (Lib.bitLen t) s HS.out HJ.out.1 HJ.out.2 WB.out.sm (by omega) HT.out.1 HT.out.2.1 HT.out.2.2 d1.sm d2 hvv
  have hdb : blockOf dv = some gv := by rw [d5]; rfl
  obtain ⟨dvo, dvc, rfl, hdc1, hdc2, hjunk⟩ := d1.open
  clear hjunk
  unfold maxLen at hdc2
  have hvy1 : vs.length ≤ ys.length := by omega
  have hvy2 : ys.length ≤ vs.length := by omega
  have D1 := hide d1
  have VLEN := hide vlen
  have HVV := hide hvv
  have HTT := hide htt
  have HDB := hide hdb
  clear d1 d2 d3 d4 d5 hvv vlen htt hdb HWV V1 V4 HT HJ HS
  go_wp2_with (at_make; refine wpList_make_words _ rfl _ _ 43 rfl Tryz.underlying43 Tryz.info32 _ _ _ _ (xs.length - ys.length + 1) rfl rfl (by omega) (by omega) (by omega) ?_)
  intro w6 harr hgr
  have hgq : gv < w5.heap.size := by
    have := D1.out.blk gv HDB.out
    exact this
  generalize w5.heap.size = gq at *
  have G6 := hide (gr_none G4.out hgr)
  have U6 := hide (U34.out.keep hgr (by simp))
  have D6 := hide (D1.out.keep0 hgr)
  have Q6 := hide harr
  clear harr hgr G4 U34 D1
  have hnn : ∃ n, vs.length = n + 2 := ⟨vs.length - 2, by omega⟩
  obtain ⟨n, hn⟩ := hnn
  have htop : 2147483648 ≤ vs.getD (n + 1) 0 := by
    have := HTT.out
    rw [hn, show n + 2 - 1 = n + 1 from by omega] at this
    simp only [List.getD, this, Option.getD_some]
    exact htb2
  have D0 : Hid (FDivInv w w6 gu gq vs (xs.length + 1) (val xs * 2 ^ s) (xs.length - ys.length + 1) us []) := by
    have h1 := FDivInv.start (w := w) (wr := w6) (gu := gu) (gq := gq) (vs := vs) (us := us) (X := val xs) (s := s) U2.out U4.out (by rw [U1.out, Nat.add_sub_cancel]; exact val_lt WA.out.sm) hs32 tt (by omega) (by have := U1.out; omega) HTT.out htb2 U6.out (by rw [U1.out, show xs.length + 1 - vs.length = xs.length - ys.length + 1 from by omega]; exact Q6.out) G6.out
    rw [U1.out, show xs.length + 1 - vs.length = xs.length - ys.length + 1 from by omega] at h1
    exact h1
  have HN := hide hn
  clear hn U1 U2 U4 U6 Q6 G6 htb2 HTT HLE
  go_wp2
  go_loopw [12] (fun iv wr => DivR w gu gq (.slice dvo vs.length dvc) vs (xs.length + 1) (val xs * 2 ^ s) iv wr) (fun iv _ => (intOf iv + 1).toNat)
  case atStart => exact ⟨(xs.length : Int) - ys.length, by omega, by omega, by go_num, D6.out, us, [], by rw [show ((xs.length : Int) - ys.length + 1).toNat = xs.length - ys.length + 1 from by omega]; exact D0.out⟩
  case round =>
    clear D0 D6
    obtain ⟨z, hz1, hz2, rfl, HVC, HD⟩ := hrel
    by_cases h0 : z < 0
    · obtain ⟨us, qs, hD⟩ := HD.out
      rw [show (z + 1).toNat = 0 from by omega] at hD
      have HDD := hide hD
      clear HD hD
      have ql : qs.length = xs.length - ys.length + 1 := by obtain ⟨i1, i2, _⟩ := HDD.out; omega
      have wq : Ws wr (.slice (some ⟨gq, 0, none⟩) (xs.length - ys.length + 1) (xs.length - ys.length + 1)) qs := by
        obtain ⟨i1, i2, i3, i4, i5, i6, i7, i8, i9⟩ := HDD.out
        rw [List.replicate_zero, List.nil_append] at i6
        have := i6.ws i4 (by unfold maxLen; omega)
        rw [ql] at this
        exact this
      have wu : Ws wr (.slice (some ⟨gu, 0, none⟩) ys.length (xs.length + 1)) (us.take ys.length) := by
        obtain ⟨i1, i2, i3, i4, i5, i6, i7, i8, i9⟩ := HDD.out
        have := Ws.sub (n := ys.length) (cap := xs.length + 1) (j := 0) i5 i3 (by omega) (by omega) (by unfold maxLen; omega)
        exact this
      have htl : (us.take ys.length).length = ys.length := by
        obtain ⟨i1, _⟩ := HDD.out
        rw [List.length_take]
        omega
      have WQ := hide wq
      have WU := hide wu
      have QL := hide ql
      have HTL := hide htl
      have SV := hide HVC.out.sm
      clear wq wu ql htl HVC hcell
      go_wp2_with fail
      go_region_with (first
        | (go_at_call 104; refine (ftrim_num _ qs _ (WQ.out.keep0 (gr_d _))).mono ?_; rintro e w8 ⟨q', rfl, rfl, n1, n2⟩)
        | (go_at_call 127; refine (lower_own _ (us.take ys.length) s _ (WU.out.keep0 (gr_d _)) hs32 (by rw [HTL.out]; omega)).mono ?_; rintro e w9 ⟨r', rfl, n5, g9⟩))
      all_goals
        obtain ⟨qo, qc, ql, rfl⟩ : ∃ qo qc ql, q' = .slice qo ql qc := by
          obtain ⟨_, o1, _⟩ := n1
          obtain ⟨qo, qc, e, _⟩ := o1.open
          exact ⟨_, _, _, e⟩
        obtain ⟨ro, rc, rl, rfl⟩ : ∃ ro rc rl, r' = .slice ro rl rc := by
          obtain ⟨_, o1, _⟩ := n5
          obtain ⟨ro, rc, e, _⟩ := o1.open
          exact ⟨_, _, _, e⟩
        have N1 := hide (n1.keep0 g9)
        have N2 := hide n2
        have N5 := hide n5
        have G9 := hide g9
        clear n1 n2 n5 g9
        go_wp2
        go_ret2
        refine divide_end HVV.out HDD.out VLEN.out hl2 (by omega) N1.out N2.out ?_ (gr_none (gr_d _) G9.out) (by omega) SV.out
        have h5 := N5.out
        rw [HTL.out] at h5
        exact h5
    · obtain ⟨j, rfl⟩ : ∃ j : Nat, z = j := ⟨z.toNat, by omega⟩
      obtain ⟨us, qs, hD⟩ := HD.out
      rw [show ((j : Int) + 1).toNat = j + 1 from by omega] at hD
      have HDD := hide hD
      clear hD HD hcell
      go_wp2_with fail
      rw [show j + vs.length + 1 - j = vs.length + 1 from by omega]
      obtain ⟨i1, i2, i3, i4, i5, i6, i7, i8, i9⟩ := HDD.out
      have hww := win_val (us := us) (vs := vs) (j := j) HVC.out.sm i3 (by omega) i8
      have hsub := Ws.sub (n := vs.length + 1) (cap := xs.length + 1 - j) (j := j) i5 i3 (by omega) (by omega) (by unfold maxLen; omega)
      have I5 := hide i5
      have I3 := hide i3
      have I1 := hide i1
      have HWW := hide hww
      have HSUB := hide hsub
      clear i1 i2 i3 i4 i5 i6 i7 i8 i9 hww hsub
      refine (guess_ws _ _ ((us.drop j).take (vs.length + 1)) vs n _ HSUB.out HVC.out HN.out (by rw [List.length_take, List.length_drop]; have := HN.out; have := I1.out; omega) htop (by rw [HWW.out.1]; exact HWW.out.2.1)).mono ?_
      intro e wa hG
      obtain ⟨g, qa, rfl, hg1, hg2, hg3, rfl⟩ := hG
      rw [HWW.out.1] at hg2 hg3
      have HG2 := hide hg2
      have HG3 := hide hg3
      clear hg2 hg3 HSUB
      go_wp2_with fail
      refine (takeAway_at gu j (xs.length + 1 - j) us vs _ g _ (I5.out.keep (gr_d _) (by simp)) (HVC.out.keep0 (gr_d _)) I3.out (by rw [HDB.out]; intro e; have := Option.some.inj e; omega) (by have := I1.out; omega) hg1 (by have := I1.out; omega) (by omega) (by unfold maxLen; omega) (by omega)).mono ?_
      intro e wt hT
      obtain ⟨E, hE, rfl, hTk⟩ := hT
      have HTK := hide hTk
      have hrd := FDivInv.round (w := w) (wr := wr) (wt := wt) HDD.out HVC.out.sm hgu (by omega) (by omega) HG2.out HG3.out hg1 (by obtain ⟨W, t1, t2, t3, t4, t5⟩ := hTk; exact ⟨W, t1, t2, t3, gr_trans (r1 := none) (r2 := some gu) (gr_d _) t4 (fun _ _ e => by cases e) (fun _ _ e => e), t5⟩) hE
      have HRD := hide hrd
      have hvt : Hid (Ws wt (.slice dvo vs.length dvc) vs) := by
        obtain ⟨W, t1, t2, t3, t4, t5⟩ := hTk
        exact (HVC.out.keep0 (gr_d _)).keep t4 (fun k e h => by rw [HDB.out] at h; cases e; have := Option.some.inj h; omega)
      clear hTk hrd HVC
      by_cases hE0 : E = 0
      · subst hE0
        have hnx := HRD.out.1 rfl
        have HNX := hide hnx
        obtain ⟨hcq, hfq⟩ : (∃ v, wt.cell? ⟨gq, j, none⟩ = some v) ∧ wt.frozen? ⟨gq, j, none⟩ = false := by
          obtain ⟨i1, i2, i3, i4, i5, i6, i7, i8, i9⟩ := HDD.out
          obtain ⟨W, t1, t2, t3, t4, t5⟩ := HTK.out
          have a2 : Arr wt gq (List.replicate (j + 1) 0 ++ qs) := (i6.keep (gr_d _) (by simp)).keep t4 (fun e => by have := Option.some.inj e; omega)
          exact ⟨⟨_, a2.cell j (by simp; omega)⟩, a2.free j⟩
        obtain ⟨v0, hcq⟩ := hcq
        clear hnx HRD HTK
        go_wp2
        go_roundw
        case rel =>
          refine ⟨(j : Int) - 1, by omega, by omega, by go_num, ?_, ?_⟩
          · exact hvt.out.keep (row := some gq) ⟨rfl, rfl, rfl, by simp, fun k _ hr => heap_setCell_other _ _ _ _ (fun e => hr (by rw [e]))⟩ (fun k e h => by rw [HDB.out] at h; cases e; have := Option.some.inj h; omega)
          · rw [show ((j : Int) - 1 + 1).toNat = j from by omega]
            exact HNX.out _ (by omega)
        case measure => simp [intOf]
      · obtain rfl : E = 1 := by omega
        clear hE0
        obtain ⟨hg0, us1, R, r1, r2, r3, r4, r5, r6⟩ := HRD.out.2 rfl
        have R1 := hide r1
        have R2 := hide r2
        have R3 := hide r3
        have R4 := hide r4
        have R5 := hide r5
        have R6 := hide r6
        clear r1 r2 r3 r4 r5 r6 HRD
        go_wp2_with fail
        refine (giveBack_at gu j (xs.length + 1 - j) R us1 vs _ _ R1.out hvt.out R2.out (by rw [HDB.out]; intro e; have := Option.some.inj e; omega) (by have := R3.out; omega) (by have := R3.out; omega) (by omega) (by unfold maxLen; omega) R4.out R5.out).mono ?_
        rintro e wg ⟨rfl, hgv2⟩
        have HNX := hide (R6.out wg hgv2)
        obtain ⟨hcq, hfq⟩ : (∃ v, wg.cell? ⟨gq, j, none⟩ = some v) ∧ wg.frozen? ⟨gq, j, none⟩ = false := by
          obtain ⟨i1, i2, i3, i4, i5, i6, i7, i8, i9⟩ := HDD.out
          obtain ⟨W, t1, t2, t3, t4, t5⟩ := HTK.out
          obtain ⟨W2, k1, k2, k3, k4, k5⟩ := hgv2
          have a2 : Arr wg gq (List.replicate (j + 1) 0 ++ qs) := ((i6.keep (gr_d _) (by simp)).keep t4 (fun e => by have := Option.some.inj e; omega)).keep k4 (fun e => by have := Option.some.inj e; omega)
          exact ⟨⟨_, a2.cell j (by simp; omega)⟩, a2.free j⟩
        obtain ⟨v0, hcq⟩ := hcq
        have hvg : Hid (Ws wg (.slice dvo vs.length dvc) vs) := by
          obtain ⟨W2, k1, k2, k3, k4, k5⟩ := hgv2
          exact hvt.out.keep k4 (fun k e h => by rw [HDB.out] at h; cases e; have := Option.some.inj h; omega)
        clear hgv2 R6 HTK
        go_wp2
        go_roundw
        case rel =>
          refine ⟨(j : Int) - 1, by omega, by omega, by go_num, ?_, ?_⟩
          · exact hvg.out.keep (row := some gq) ⟨rfl, rfl, rfl, by simp, fun k _ hr => heap_setCell_other _ _ _ _ (fun e => hr (by rw [e]))⟩ (fun k e h => by rw [HDB.out] at h; cases e; have := Option.some.inj h; omega)
          · rw [show ((j : Int) - 1 + 1).toNat = j from by omega]
            exact HNX.out _ (by omega)
        case measure => simp [intOf]

/-- divide: how often, and what is left over. -/
theorem divide_own (va vb : Value) (X Y L M : Nat) (w : World) (ha : Num w va X L) (hb : Num w vb Y M) (hy : 0 < Y) (hl : L ≤ 900000000) :
    Calls Tryz.prog 78 #[va, vb] w fun e w' => DividedO w X Y L e w' := by
  obtain ⟨xs, x1, x2, x3, x4⟩ := ha
  obtain ⟨ys, y1, y2, y3, y4⟩ := hb
  have key : Calls Tryz.prog 78 #[va, vb] w fun e w' => DividedO w (val xs) (val ys) xs.length e w' := by
    by_cases h1 : val xs < val ys
    · exact divide_less va vb xs ys w x1 y1 x2 y2 h1 (by omega)
    · by_cases h2 : 1 < ys.length
      · exact divide_main va vb xs ys w x1 y1 x2 y2 h2 (by omega) (by omega) (len_le y1.sm y2 x1.sm (by omega))
      · match ys, y1, y2, y3, h1, h2 with
        | [], _, _, y3, _, _ => simp [val] at y3; omega
        | [y], y1, y2, y3, h1, _ => exact divide_one va vb xs y w x1 y1 x2 y2 (by simp [val] at h1; omega) (by omega)
        | _ :: _ :: _, _, _, _, _, h2 => simp at h2
  refine key.mono ?_
  rintro e w' ⟨q, r, rfl, k1, k2, k3, k4⟩
  rw [x3, y3] at k1 k2
  exact ⟨q, r, rfl, k1.mono x4, k2.mono x4, k3, k4⟩

theorem divide_num (va vb : Value) (X Y L M : Nat) (w : World) (ha : Num w va X L) (hb : Num w vb Y M) (hy : 0 < Y) (hl : L ≤ 900000000) :
    Calls Tryz.prog 78 #[va, vb] w fun e w' => Divided w X Y L e w' := by
  refine (divide_own va vb X Y L M w ha hb hy hl).mono ?_
  rintro e w' ⟨q, r, rfl, k1, k2, k3, k4⟩
  exact ⟨q, r, rfl, k1, k2.num, k3, k4, fun k hk => (k2.fresh k hk).1⟩
end Go.Proofs.YtgdiepfknfnmjaaGreatDoor
