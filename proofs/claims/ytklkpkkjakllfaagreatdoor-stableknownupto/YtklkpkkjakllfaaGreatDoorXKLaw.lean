/- voltaiclaw: StableKnown. -/
import Derived.Test.YtklkpkkjakllfaaGreatDoorXKg
import Derived.Test.YtklkpkkjakllfaaGreatDoorXLSid
set_option linter.unusedVariables false
set_option linter.unusedSimpArgs false
set_option maxHeartbeats 32000000
set_option maxRecDepth 10000
namespace Go.Proofs.YtklkpkkjakllfaaGreatDoor
open Go.RowKit
def KwR (w : World) (bw nr : Nat) (pv iv : Value) (wr : World) : Prop :=
  ∃ (i : Nat) (P : Nat → Rat) (l m r : Nat), i ≤ nr ∧ iv = .int .i64 (i : Int) ∧ RP wr pv (i + 1) P (131074 + i * 131075) ∧ K.Kn P (i + 1) l m r ∧ Rep P (131074 + i * 131075) ∧ BoxC wr bw #[.int .i64 (l : Int), .int .i64 (m : Int), .int .i64 (r : Int)] ∧ w.grownBy wr none
def KpR (w : World) (bw nr np : Nat) (pv iv : Value) (wr : World) : Prop :=
  ∃ (i : Nat) (P : Nat → Rat) (l m r : Nat), i ≤ np ∧ iv = .int .i64 (i : Int) ∧ RP wr pv (nr + 2 * i + 1) P (131074 + nr * 131075 + i * 262153) ∧ K.Kn P (nr + 2 * i + 1) l m r ∧ Rep P (131074 + nr * 131075 + i * 262153) ∧ BoxC wr bw #[.int .i64 (l : Int), .int .i64 (m : Int), .int .i64 (r : Int)] ∧ w.grownBy wr none
theorem kn_l {P : Nat → Rat} {n l m r : Nat} {x : Rat} (h : K.Kn P n l m r) (hs : x.num.sign = -1) : K.Kn (K.ln 1 (-x) P) (n + 1) (l + 1) m r := by
  have k := K.kn_lin x h
  have e : sgn1 x = -1 := hs
  simpa [K.addS, e] using k
theorem kn_m {P : Nat → Rat} {n l m r : Nat} {x : Rat} (h : K.Kn P n l m r) (hs : x.num.sign = 0) : K.Kn (K.ln 1 (-x) P) (n + 1) l (m + 1) r := by
  have k := K.kn_lin x h
  have e : sgn1 x = 0 := hs
  simpa [K.addS, e] using k
theorem kn_r {P : Nat → Rat} {n l m r : Nat} {x : Rat} (h : K.Kn P n l m r) (hs : x.num.sign = 1) : K.Kn (K.ln 1 (-x) P) (n + 1) l m (r + 1) := by
  have k := K.kn_lin x h
  have e : sgn1 x = 1 := hs
  simpa [K.addS, e] using k
theorem kn_l2 {P : Nat → Rat} {n l m r : Nat} {x : Rat} (y : Rat) (h : K.Kn P n l m r) (hs : x.num.sign = -1) : K.Kn (K.qd x y P) (n + 2) (l + 2) m r := by
  have k := K.kn_quad x y h
  have e : sgn1 x = -1 := hs
  simpa [K.addS, e] using k
theorem kn_m2 {P : Nat → Rat} {n l m r : Nat} {x : Rat} (y : Rat) (h : K.Kn P n l m r) (hs : x.num.sign = 0) : K.Kn (K.qd x y P) (n + 2) l (m + 2) r := by
  have k := K.kn_quad x y h
  have e : sgn1 x = 0 := hs
  simpa [K.addS, e] using k
theorem kn_r2 {P : Nat → Rat} {n l m r : Nat} {x : Rat} (y : Rat) (h : K.Kn P n l m r) (hs : x.num.sign = 1) : K.Kn (K.qd x y P) (n + 2) l m (r + 2) := by
  have k := K.kn_quad x y h
  have e : sgn1 x = 1 := hs
  simpa [K.addS, e] using k
theorem sign3 (q : Rat) : q.num.sign = -1 ∨ q.num.sign = 0 ∨ q.num.sign = 1 := by
  have h := sign_small q.num
  omega
theorem rp_two {w : World} {b1 b2 : Nat} {P : Nat → Rat} {L : Nat} (T : TypeId) (h1 : RV w b1 (P 0) L) (h2 : RV w b2 (P 1) L) : RP (w.alloc (Obj.cells #[.pointer (some ⟨b1, 0, none⟩), .pointer (some ⟨b2, 0, none⟩)] T)) (.slice (some ⟨w.heap.size, 0, none⟩) 2 2) 2 P L := by
  have g := gr_alloc (gr_refl w none) (Obj.cells #[.pointer (some ⟨b1, 0, none⟩), .pointer (some ⟨b2, 0, none⟩)] T)
  have hb := boxNew w #[.pointer (some ⟨b1, 0, none⟩), .pointer (some ⟨b2, 0, none⟩)] T
  refine ⟨_, 0, 2, rfl, Nat.le_refl _, by unfold maxLen; decide, fun i hi => ?_⟩
  match i, hi with
  | 0, _ => exact ⟨b1, hb.cell 0, h1.keep0 g⟩
  | 1, _ => exact ⟨b2, hb.cell 1, h2.keep0 g⟩
theorem rp_three {w : World} {b1 b2 b3 : Nat} {P : Nat → Rat} {L : Nat} (T : TypeId) (h1 : RV w b1 (P 0) L) (h2 : RV w b2 (P 1) L) (h3 : RV w b3 (P 2) L) : RP (w.alloc (Obj.cells #[.pointer (some ⟨b1, 0, none⟩), .pointer (some ⟨b2, 0, none⟩), .pointer (some ⟨b3, 0, none⟩)] T)) (.slice (some ⟨w.heap.size, 0, none⟩) 3 3) 3 P L := by
  have g := gr_alloc (gr_refl w none) (Obj.cells #[.pointer (some ⟨b1, 0, none⟩), .pointer (some ⟨b2, 0, none⟩), .pointer (some ⟨b3, 0, none⟩)] T)
  have hb := boxNew w #[.pointer (some ⟨b1, 0, none⟩), .pointer (some ⟨b2, 0, none⟩), .pointer (some ⟨b3, 0, none⟩)] T
  refine ⟨_, 0, 3, rfl, Nat.le_refl _, by unfold maxLen; decide, fun i hi => ?_⟩
  match i, hi with
  | 0, _ => exact ⟨b1, hb.cell 0, h1.keep0 g⟩
  | 1, _ => exact ⟨b2, hb.cell 1, h2.keep0 g⟩
  | 2, _ => exact ⟨b3, hb.cell 2, h3.keep0 g⟩
theorem row_at {w : World} {ao : Option Addr} {n cap : Nat} {ls : List ByteArray} (h : RowG sv w (.slice ao n cap) ls) {i : Nat} (hi : i < ls.length) : ∃ g off, ao = some ⟨g, off, none⟩ ∧ w.cell? ⟨g, off + i, none⟩ = some (.string ls[i]) := by
  obtain ⟨ao', cap', e, _, _, h3⟩ := h
  simp only [Value.slice.injEq] at e
  obtain ⟨g, off, e1, _, c⟩ := h3 i hi
  exact ⟨g, off, e.1.trans e1, c⟩
theorem rowP_cell {w : World} {ao : Option Addr} {n cap : Nat} {ls : List (ByteArray × ByteArray)} (h : RowP w (.slice ao n cap) ls) {i : Nat} (hi : i < ls.length) : ∃ g off, ao = some ⟨g, off, none⟩ ∧ w.cell? ⟨g, off + i * 2, none⟩ = some (.string (ls[i]).1) ∧ w.cell? ⟨g, off + i * 2 + 1, none⟩ = some (.string (ls[i]).2) := by
  obtain ⟨ao', cap', e, _, _, h3⟩ := h
  simp only [Value.slice.injEq] at e
  obtain ⟨g, off, e1, c1, c2⟩ := h3 i hi
  exact ⟨g, off, e.1.trans e1, c1, c2⟩
theorem rep_up {P : Nat → Rat} {A B : Nat} (h : Rep P A) (hl : A ≤ B) : Rep P B := by
  obtain ⟨e, e0, he, hz⟩ := h
  have hp := Nat.pow_le_pow_right (show 0 < 4294967296 by decide) hl
  exact ⟨e, e0, Nat.lt_of_lt_of_le he hp, fun j => by obtain ⟨z, h1, h2⟩ := hz j; exact ⟨z, Nat.lt_of_lt_of_le h1 hp, h2⟩⟩
theorem BoxC.s2 {w : World} {b : Nat} {a0 a1 : Value} (h : BoxC w b #[a0, a1]) : w.cell? ⟨b, 0, none⟩ = some a0 ∧ w.cell? ⟨b, 1, none⟩ = some a1 ∧ w.frozen? ⟨b, 0, none⟩ = false ∧ w.frozen? ⟨b, 1, none⟩ = false :=
  ⟨h.cell 0, h.cell 1, h.fro 0, h.fro 1⟩
theorem known_any (v u : Value) (ls : List ByteArray) (ps : List (ByteArray × ByteArray)) (t : ByteArray) (w : World) (hl : RowG sv w v ls) (hp : RowP w u ps) (hs : ∀ i (h : i < ls.length), (ls[i]).size ≤ 1048576) (hs2 : ∀ i (h : i < ps.length), (ps[i]).1.size + (ps[i]).2.size ≤ 1048576) (ht : t.size ≤ 1048576)
    (hln : ls.length ≤ 1048576) (hpn : ps.length ≤ 1048576) (hml : MLen w) (htab : Tab10 w) :
    Calls Tryz.prog 3 #[v, u, .string t] w fun e w' => e = .returned (.bool true) ∧ w.grownBy w' none := by
  have HL := hide hl
  have HP := hide hp
  have HS := hide hs
  have HS2 := hide hs2
  have HM := hide hml
  have HT := hide htab
  obtain ⟨ao, cap, rfl, hc, hm, hx1⟩ := hl
  obtain ⟨ao2, cap2, rfl, hc2, hm2, hx2⟩ := hp
  clear hx1 hx2
  unfold maxLen at hm hm2
  obtain ⟨nr, hnr⟩ : ∃ x, x = ls.length := ⟨_, rfl⟩
  obtain ⟨np, hnp⟩ : ∃ x, x = ps.length := ⟨_, rfl⟩
  rw [← hnr, ← hnp]
  rw [← hnr] at hc hln
  rw [← hnp] at hc2 hpn
  have HNR := hide hnr
  have HNP := hide hnp
  obtain ⟨c, hcq⟩ : ∃ q, q = ofR t.data.toList := ⟨_, rfl⟩
  have FC := hide (txt_fit hcq ht)
  have HC := hide hcq
  clear hs hs2 hml htab hnr hnp hcq
  have hw2 : IntKind.i64.wrap (2 * (np : Int)) = 2 * (np : Int) := by rw [IntWalk.i64_in _ ⟨by omega, by omega⟩]
  have hw3 : IntKind.i64.wrap ((nr : Int) + 2 * (np : Int)) = (nr : Int) + 2 * (np : Int) := by rw [IntWalk.i64_in _ ⟨by omega, by omega⟩]
  go_enter Tryz.func3, Tryz.ntmps3
  go_wp2_with fail
  refine (sided_at w HM.out HT.out).mono ?_
  rintro e w1 ⟨rfl, g1⟩
  have G1 := hide g1
  clear g1
  by_cases hbig : 12 < nr + 2 * np
  · have hb2 : (12 : Int) < (nr : Int) + 2 * (np : Int) := by omega
    go_wp2
    go_ret
    exact ⟨rfl, G1.out⟩
  · have hb2 : ¬ (12 : Int) < (nr : Int) + 2 * (np : Int) := by omega
    obtain ⟨ml, hml⟩ := HM.out
    have HML := hide hml
    clear hml
    go_wp2_with fail
    refine (rOfV_at t c ml 131074 w1 HC.out (by omega) FC.out (gr_cell G1.out HML.out)).mono ?_
    rintro e w2 ⟨b0, rfl, p0, g2⟩
    have P0 := hide p0
    have G2 := hide (gr_none G1.out g2)
    clear p0 g2
    go_wp2_with fail
    refine (rSignV_at b0 c 131074 w2 P0.out).mono ?_
    rintro e w3 ⟨rfl, hw3⟩
    rw [hw3]
    clear hw3
    obtain ⟨sg, hsg⟩ : ∃ x, x = c.num.sign := ⟨_, rfl⟩
    rw [← hsg]
    by_cases hz : c = 0
    · have hsz : (sg == 0) = true := by rw [hsg, hz]; rfl
      clear hsg
      go_wp2
      go_ret
      exact ⟨rfl, G2.out⟩
    · have hsz : (sg == 0) = false := by
        rw [hsg, beq_eq_false_iff_ne]
        intro e
        exact hz (Rat.num_eq_zero.1 (Int.sign_eq_zero_iff_zero.1 e))
      have HZ := hide hz
      clear hsg hz P0
      go_wp2_with fail
      refine (rOfV_at t c ml 131074 w2 HC.out (by omega) FC.out (gr_cell G2.out HML.out)).mono ?_
      rintro e w4 ⟨b1, rfl, p1, g4⟩
      have P1 := hide p1
      have G4 := hide (gr_none G2.out g4)
      clear p1 g4
      go_upto_region 8 with fail
      obtain ⟨W5, hW5⟩ : ∃ x, x = ((w4.alloc (Obj.cells #[.pointer (some ⟨b1, 0, none⟩)] 26)).alloc (Obj.cells #[.int .i64 0, .int .i64 0, .int .i64 0] 31)) := ⟨_, rfl⟩
      obtain ⟨bw, hbw⟩ : ∃ x, x = w4.heap.size + 1 := ⟨_, rfl⟩
      have G5 : Hid (w.grownBy W5 none) := by unfold Hid; rw [hW5]; exact gr_alloc (gr_alloc G4.out _) _
      have hbwl : w.heap.size ≤ bw := by have := G4.out.size; omega
      have ST : Hid (KwR w bw nr (.slice (some ⟨w4.heap.size, 0, none⟩) 1 1) (.int .i64 0) W5) := by
        refine ⟨0, K.sm c K.on, 0, 0, 0, Nat.zero_le _, rfl, ?_, K.kn_start HZ.out, K.rep_start FC.out, ?_, G5.out⟩
        · refine ⟨_, 0, 1, rfl, Nat.le_refl _, by unfold maxLen; decide, fun i hi => ?_⟩
          obtain rfl : i = 0 := by omega
          have e0 : K.sm c K.on 0 = c := by show c * K.on 0 = c; unfold K.on; simp
          rw [e0, hW5]
          have g5 : w4.grownBy ((w4.alloc (Obj.cells #[.pointer (some ⟨b1, 0, none⟩)] 26)).alloc (Obj.cells #[.int .i64 0, .int .i64 0, .int .i64 0] 31)) none := gr_alloc (gr_alloc (gr_refl _ _) _) _
          have hb := (boxNew w4 #[.pointer (some ⟨b1, 0, none⟩)] 26).keep0 (gr_alloc (gr_refl _ none) (Obj.cells #[.int .i64 0, .int .i64 0, .int .i64 0] 31))
          exact ⟨b1, hb.cell 0, P1.out.keep0 g5⟩
        · rw [hW5]
          exact boxNew' _ _ _ bw (by rw [hbw]; simp)
      have i3 : (Tryz.prog.info? 31).isSome = true := by kernel_rfl
      rw [← hW5, ← hbw]
      clear hW5 hbw P1
      go_wp2
      go_loopw [7, 41] (fun pv iv wr => Hid (KwR w bw nr pv iv wr)) (fun _ iv _ => nr - (intOf iv).toNat)
      case atStart => exact ST.out
      case round =>
        obtain ⟨i, P, l, m, r, hi, rfl, hrp, hkn, hrep, hbox, hgr⟩ := hrel.out
        have HRP := hide hrp
        have HKN := hide hkn
        have HREP := hide hrep
        have HBOX := hide hbox
        have HGR := hide hgr
        have hsum := hkn.2.1
        have hl12 : l ≤ 12 := by omega
        have hm12 : m ≤ 12 := by omega
        have hr12 : r ≤ 12 := by omega
        clear hsum
        obtain ⟨pg, poff, pcap, rfl, hpc, hpm, hpx⟩ := hrp
        unfold maxLen at hpm
        clear hrel hkn hrep hbox hgr hpx ST
        by_cases hlt : i < nr
        · have hltl : i < ls.length := by have := HNR.out; omega
          obtain ⟨gb, goff, hao, ccell⟩ := row_at HL.out hltl
          subst hao
          have cc2 := gr_cell HGR.out ccell
          obtain ⟨s, hs⟩ : ∃ s, s = ls[i] := ⟨_, rfl⟩
          rw [← hs] at cc2
          have c1 : wr.cell? ⟨gb, goff + i, none⟩ = some (.string s) := cc2
          have hss : s.size ≤ 1048576 := by rw [hs]; exact HS.out i hltl
          obtain ⟨x, hx⟩ : ∃ q, q = ofR s.data.toList := ⟨_, rfl⟩
          have FX := hide (txt_fit hx hss)
          have HX := hide hx
          have hi0 : (0 : Int) ≤ (i : Int) := by omega
          have hi1 : (i : Int) < (nr : Int) := by omega
          clear hs hx cc2 ccell hltl
          go_wp2_with fail
          refine (rOfV_at s x ml 131074 wr HX.out (by omega) FX.out (gr_cell HGR.out HML.out)).mono ?_
          rintro e w5 ⟨bx, rfl, px, g5⟩
          have PX := hide px
          have G6 := hide g5
          clear px g5 c1
          go_wp2_with fail
          refine (rN_at 0 w5 (by decide) (by decide)).mono ?_
          rintro e w6 ⟨bn, rfl, pn, g6, _⟩
          have PN := hide pn
          have PX6 := hide (PX.out.keep0 g6)
          have G7 := hide (gr_none G6.out g6)
          clear pn g6 PX G6
          go_wp2_with fail
          refine (rSubS_at bn bx ((0 : Int) : Rat) x 4 131074 w6 PN.out.x (PX6.out.x (by decide)) (by decide)).mono ?_
          rintro e w7 ⟨bs, rfl, ps7, g7, _⟩
          have PS := hide ps7
          have PX7 := hide (PX6.out.keep0 g7)
          have G8 := hide (gr_none G7.out g7)
          clear ps7 g7 PN PX6 G7
          go_wp2_with fail
          refine (rN_at 1 w7 (by decide) (by decide)).mono ?_
          rintro e w8 ⟨bo, rfl, po, g8, _⟩
          have PO := hide po
          have PS8 := hide (PS.out.keep0 g8)
          have PX8 := hide (PX7.out.keep0 g8)
          have G9 := hide (gr_none G8.out g8)
          clear po g8 PS PX7 G8
          have RQ2 : Hid (RP (w8.alloc (Obj.cells #[.pointer (some ⟨bs, 0, none⟩), .pointer (some ⟨bo, 0, none⟩)] 26)) (.slice (some ⟨w8.heap.size, 0, none⟩) 2 2) 2 (K.q2 x) 131100) := rp_two _ (PS8.out.v.mono (by decide)) (PO.out.v.mono (by decide))
          have GA := hide (gr_alloc G9.out (Obj.cells #[.pointer (some ⟨bs, 0, none⟩), .pointer (some ⟨bo, 0, none⟩)] 26))
          have hrp2 := K.rep_lin HREP.out FX.out
          have hpl2 := (K.PL_ln (a := 1) (-x) (by decide) HKN.out.1 (by omega)).1
          have RE2 : Hid (Rep (K.ln 1 (-x) P) (131074 + (i + 1) * 131075)) := by unfold Hid; rw [show 131074 + (i + 1) * 131075 = 131074 + i * 131075 + 131074 + 1 by omega]; exact hrp2
          have PL2 := hide hpl2
          clear hrp2 hpl2
          go_wp2_with fail
          refine (times_at _ _ (i + 1) 2 P (K.q2 x) (131074 + (i + 1) * 131075) (131074 + i * 131075) 131100 _ (HRP.out.keep0 GA.out) RQ2.out (by omega) (by decide) (by omega) (by decide) HKN.out.1.1 (fun j hj => K.q2_out x hj) (by rw [K.cnv_q2]; exact PL2.out.2 (by omega)) (fun k => by rw [K.cnv_q2]; exact RE2.out.fit k) (by omega) (by decide) (by omega)).mono ?_
          rintro e w9 ⟨pv2, rfl, rp9, g9⟩
          rw [K.cnv_q2, show i + 1 + 2 - 1 = i + 1 + 1 by omega] at rp9
          have RP9 := hide rp9
          have PX9 := hide ((PX8.out.keep0 (gr_alloc (gr_refl _ none) _)).keep0 g9)
          have G10 := hide (gr_none GA.out g9)
          have BX9 := hide ((HBOX.out.keep0 GA.out).keep0 g9)
          obtain ⟨qg, qoff, qcap, rfl, hqc, hqm, hqx⟩ := rp9
          clear g9 hqx PX8 RQ2 GA
          go_wp2_with fail
          refine (side_at bx x 131074 w9 PX9.out).mono ?_
          rintro e w10 ⟨rfl, hw10⟩
          rw [hw10]
          clear hw10
          have GT := hide (gr_none HGR.out G10.out)
          obtain ⟨b0', b1', b2', f0, f1, f2⟩ := BX9.out.i3
          have gs : ∀ j (z : Value), w.grownBy (w9.setCell ⟨bw, j, none⟩ z) none := fun j z => gr_set GT.out _ _ (by simpa using hbwl)
          have GS := hide gs
          clear gs
          rcases sign3 x with hsg3 | hsg3 | hsg3
          · have KN2 := hide (kn_l HKN.out hsg3)
            have B2 := hide (BX9.out.set 0 (.int .i64 ((l + 1 : Nat) : Int)))
            have R2 := hide (RP9.out.set (i := 0) (x := .int .i64 ((l + 1 : Nat) : Int)) BX9.out)
            rw [hsg3]
            clear hsg3
            go_wp2
            go_roundw
            case rel => exact ⟨i + 1, _, l + 1, m, r, by omega, by go_num, R2.out, KN2.out, RE2.out, B2.out, GS.out _ _⟩
            case measure => simp [intOf]; omega
          · have KN2 := hide (kn_m HKN.out hsg3)
            have B2 := hide (BX9.out.set 1 (.int .i64 ((m + 1 : Nat) : Int)))
            have R2 := hide (RP9.out.set (i := 1) (x := .int .i64 ((m + 1 : Nat) : Int)) BX9.out)
            rw [hsg3]
            clear hsg3
            go_wp2
            go_roundw
            case rel => exact ⟨i + 1, _, l, m + 1, r, by omega, by go_num, R2.out, KN2.out, RE2.out, B2.out, GS.out _ _⟩
            case measure => simp [intOf]; omega
          · have KN2 := hide (kn_r HKN.out hsg3)
            have B2 := hide (BX9.out.set 2 (.int .i64 ((r + 1 : Nat) : Int)))
            have R2 := hide (RP9.out.set (i := 2) (x := .int .i64 ((r + 1 : Nat) : Int)) BX9.out)
            rw [hsg3]
            clear hsg3
            go_wp2
            go_roundw
            case rel => exact ⟨i + 1, _, l, m, r + 1, by omega, by go_num, R2.out, KN2.out, RE2.out, B2.out, GS.out _ _⟩
            case measure => simp [intOf]; omega
        · have hie : i = nr := by omega
          obtain ⟨wA, hwa⟩ : ∃ x, x = wr := ⟨_, rfl⟩
          obtain rfl := hwa
          have hdi : decide (i < nr) = false := decide_eq_false hlt
          have S2 : Hid (KpR w bw nr np (.slice (some ⟨pg, poff, none⟩) (i + 1) pcap) (.int .i64 0) wA) := by
            refine ⟨0, P, l, m, r, Nat.zero_le _, rfl, ?_, ?_, ?_, HBOX.out, HGR.out⟩
            · have h := HRP.out
              rw [hie] at h ⊢
              exact h
            · have h := HKN.out
              rw [hie] at h
              exact h
            · have h := HREP.out
              rw [hie] at h
              exact h
          clear hie HRP HKN HREP HBOX HGR hl12 hm12 hr12
          go_wp2
          go_loopw [7, 64] (fun pv iv wr => Hid (KpR w bw nr np pv iv wr)) (fun _ iv _ => np - (intOf iv).toNat)
          case atStart => exact S2.out
          case round =>
            obtain ⟨k, P, l, m, r, hk, rfl, hrp, hkn, hrep, hbox, hgr⟩ := hrel.out
            have HRP := hide hrp
            have HKN := hide hkn
            have HREP := hide hrep
            have HBOX := hide hbox
            have HGR := hide hgr
            have hsum := hkn.2.1
            have hl12 : l ≤ 12 := by omega
            have hm12 : m ≤ 12 := by omega
            have hr12 : r ≤ 12 := by omega
            obtain ⟨nn, hnn⟩ : ∃ x, x = nr + 2 * k + 1 := ⟨_, rfl⟩
            have hnn13 : nn ≤ 13 := by omega
            have hnn1 : 1 ≤ nn := by omega
            obtain ⟨qg, qoff, qcap, rfl, hqc, hqm, hqx⟩ := hrp
            unfold maxLen at hqm
            rw [← hnn] at HRP HKN hqc ⊢
            have HNN := hide hnn
            clear hrel hkn hrep hbox hgr hqx S2 hsum hnn
            by_cases hlt2 : k < np
            · have hltl : k < ps.length := by have := HNP.out; omega
              have hkI : (k : Int) < (np : Int) := by omega
              have hk0 : (0 : Int) ≤ (k : Int) := by omega
              have hnn11 : nn ≤ 11 := by have := HNN.out; omega
              obtain ⟨gb, goff, hao, d1, d2⟩ := rowP_cell HP.out hltl
              subst hao
              have d1' := gr_cell HGR.out d1
              have d2' := gr_cell HGR.out d2
              obtain ⟨s1, hs1⟩ : ∃ s, s = (ps[k]).1 := ⟨_, rfl⟩
              obtain ⟨s2, hs2⟩ : ∃ s, s = (ps[k]).2 := ⟨_, rfl⟩
              rw [← hs1] at d1'
              rw [← hs2] at d2'
              have hss : s1.size + s2.size ≤ 1048576 := by rw [hs1, hs2]; exact HS2.out k hltl
              obtain ⟨x, hx⟩ : ∃ q, q = ofR s1.data.toList := ⟨_, rfl⟩
              obtain ⟨y, hy⟩ : ∃ q, q = ofR s2.data.toList := ⟨_, rfl⟩
              have FX := hide (txt_fit hx (by omega))
              have FY := hide (txt_fit hy (by omega))
              have FXS := hide (txt_fitS hx)
              have FYS := hide (txt_fitS hy)
              have HX := hide hx
              have HY := hide hy
              clear hs1 hs2 hx hy d1 d2 hltl
              go_upto_region 18 with fail
              obtain ⟨WB, hWB⟩ : ∃ x, x = wr.alloc (Obj.cells #[.string s1, .string s2] 36) := ⟨_, rfl⟩
              have GWB : Hid (wr.grownBy WB none) := by unfold Hid; rw [hWB]; exact gr_alloc (gr_refl _ _) _
              have BB : Hid (∀ wx, WB.grownBy wx none → BoxC wx wr.heap.size #[.string s1, .string s2]) := by
                intro wx g
                rw [hWB] at g
                exact (boxNew wr #[.string s1, .string s2] 36).keep0 g
              have GB := hide (gr_none HGR.out GWB.out)
              rw [← hWB]
              clear hWB d1' d2'
              have GG : WB.grownBy WB none := gr_refl _ _
              obtain ⟨e0, e1, ef0, ef1⟩ := (BB.out WB GG).s2
              go_region_held3 (fun w' => w'.cell? ⟨wr.heap.size, 0, none⟩ = some (.string s1) ∧ w'.cell? ⟨wr.heap.size, 1, none⟩ = some (.string s2)) (go_keep)
                (first | (go_at_call_of 5 (Value.string s1); refine (rOfV_at s1 x ml 131074 _ HX.out (by omega) FX.out (gr_cell (gr_none GB.out (by first | exact gr_none GG (gr_d _) | exact gr_none GG gr_d1 | exact GG)) HML.out)).mono ?_; rintro e wa ⟨bx, rfl, px, ga⟩; have GG : WB.grownBy wa none := gr_none (by first | exact gr_none GG (gr_d _) | exact gr_none GG gr_d1 | exact GG) ga; obtain ⟨a0, a1, af0, af1⟩ := (BB.out wa GG).s2) | (go_at_call_of 5 (Value.string s2); refine (rOfV_at s2 y ml 131074 _ HY.out (by omega) FY.out (gr_cell (gr_none GB.out (by first | exact gr_none GG (gr_d _) | exact gr_none GG gr_d1 | exact GG)) HML.out)).mono ?_; rintro e wc ⟨bY, rfl, pY, gc⟩; have px := px.keep0 (gr_none (by first | exact gr_d _ | exact gr_d1 | exact gr_refl _ _) gc); have GG : WB.grownBy wc none := gr_none (by first | exact gr_none GG (gr_d _) | exact gr_none GG gr_d1 | exact GG) gc; obtain ⟨c0, c1, cf0, cf1⟩ := (BB.out wc GG).s2))
              all_goals
                have PX := hide px
                have PY := hide pY
                have GC := hide (gr_none GWB.out GG)
                clear px pY
                go_wp2_with fail
                refine (rMulSX_at bx bx x x 131074 131074 wc (PX.out.x (by decide)) (PX.out.x (by decide)) (by decide)).mono ?_
                rintro e w5 ⟨b5, rfl, p5, g5, _⟩
                have P5 := hide p5
                have PX5 := hide (PX.out.keep0 g5)
                have PY5 := hide (PY.out.keep0 g5)
                have G5b := hide (gr_none GC.out g5)
                clear p5 g5 PX PY GC
                go_wp2_with fail
                refine (rMulSX_at bY bY y y 131074 131074 w5 (PY5.out.x (by decide)) (PY5.out.x (by decide)) (by decide)).mono ?_
                rintro e w6 ⟨b6, rfl, p6, g6, _⟩
                have P6 := hide p6
                have P56 := hide (P5.out.keep0 g6)
                have PX6 := hide (PX5.out.keep0 g6)
                have G6 := hide (gr_none G5b.out g6)
                clear p6 g6 P5 PX5 PY5 G5b
                go_wp2_with fail
                refine (rAddS_at b5 b6 (x * x) (y * y) (131074 + 131074 + 2) (131074 + 131074 + 2) w6 P56.out.x P6.out.x (by decide)).mono ?_
                rintro e w7 ⟨b7, rfl, p7, g7, _⟩
                have P7 := hide p7
                have PX7 := hide (PX6.out.keep0 g7)
                have G7 := hide (gr_none G6.out g7)
                clear p7 g7 P6 P56 PX6 G6
                go_wp2_with fail
                refine (rN_at (-2) w7 (by decide) (by decide)).mono ?_
                rintro e w8 ⟨b8, rfl, p8, g8, _⟩
                have P8 := hide p8
                have P78 := hide (P7.out.keep0 g8)
                have PX8 := hide (PX7.out.keep0 g8)
                have G8 := hide (gr_none G7.out g8)
                clear p8 g8 P7 PX7 G7
                go_wp2_with fail
                refine (rMulSX_at b8 bx ((-2 : Int) : Rat) x 4 131074 w8 P8.out.x (PX8.out.x (by decide)) (by decide)).mono ?_
                rintro e w9 ⟨b9, rfl, p9, g9, _⟩
                have P9 := hide p9
                have P79 := hide (P78.out.keep0 g9)
                have PX9 := hide (PX8.out.keep0 g9)
                have G9 := hide (gr_none G8.out g9)
                clear p9 g9 P8 P78 PX8 G8
                go_wp2_with fail
                refine (rN_at 1 w9 (by decide) (by decide)).mono ?_
                rintro e wd ⟨bd, rfl, pd, gd, _⟩
                have PD := hide pd
                have P9d := hide (P9.out.keep0 gd)
                have P7d := hide (P79.out.keep0 gd)
                have PXd := hide (PX9.out.keep0 gd)
                have Gd := hide (gr_none G9.out gd)
                clear pd gd P9 P79 PX9 G9
                have RQ3 : Hid (RP (wd.alloc (Obj.cells #[.pointer (some ⟨b7, 0, none⟩), .pointer (some ⟨b9, 0, none⟩), .pointer (some ⟨bd, 0, none⟩)] 26)) (.slice (some ⟨wd.heap.size, 0, none⟩) 3 3) 3 (K.q3 x y) 600000) := rp_three _ (P7d.out.v.mono (by decide)) (P9d.out.v.mono (by decide)) (PD.out.v.mono (by decide))
                have GA := hide (gr_alloc Gd.out (Obj.cells #[.pointer (some ⟨b7, 0, none⟩), .pointer (some ⟨b9, 0, none⟩), .pointer (some ⟨bd, 0, none⟩)] 26))
                have hpl2 := K.PL_qd x y HKN.out.1 hnn1
                have RE2 : Hid (Rep (K.qd x y P) (131074 + nr * 131075 + (k + 1) * 262153)) := rep_up (K.rep_quad HREP.out FXS.out FYS.out) (by omega)
                have PL2 := hide hpl2
                clear hpl2
                have hAb : 131074 + nr * 131075 + k * 262153 ≤ 5000000 := by omega
                go_wp2_with fail
                refine (times_at _ _ nn 3 P (K.q3 x y) (131074 + nr * 131075 + (k + 1) * 262153) (131074 + nr * 131075 + k * 262153) 600000 _ (HRP.out.keep0 GA.out) RQ3.out (by omega) (by decide) (by omega) (by decide) HKN.out.1.1 (fun j hj => K.q3_out x y hj) (by rw [K.cnv_q3, show nn + 3 - 2 = nn + 2 - 1 by omega]; exact PL2.out.2 (by omega)) (fun k => by rw [K.cnv_q3]; exact RE2.out.fit k) (by omega) (by decide) (by omega)).mono ?_
                rintro e we ⟨pv2, rfl, rpe, ge⟩
                rw [K.cnv_q3, show nn + 3 - 1 = nn + 2 by omega] at rpe
                have RPE := hide rpe
                have PXe := hide ((PXd.out.keep0 (gr_alloc (gr_refl _ none) _)).keep0 ge)
                have GE := hide (gr_none GA.out ge)
                have BXe := hide ((HBOX.out.keep0 GA.out).keep0 ge)
                obtain ⟨rg, roff, rcap, rfl, hrc, hrm, hrx⟩ := rpe
                clear ge hrx PXd RQ3 GA
                go_wp2_with fail
                refine (side_at bx x 131074 we PXe.out).mono ?_
                rintro e wf ⟨rfl, hwf⟩
                rw [hwf]
                clear hwf
                have GT := hide (gr_none HGR.out GE.out)
                obtain ⟨b0', b1', b2', f0, f1, f2⟩ := BXe.out.i3
                have gs : ∀ j (z : Value), w.grownBy (we.setCell ⟨bw, j, none⟩ z) none := fun j z => gr_set GT.out _ _ (by simpa using hbwl)
                have GS := hide gs
                have enn : Hid (nr + 2 * (k + 1) + 1 = nn + 2) := by have := HNN.out; unfold Hid; omega
                clear gs
                rcases sign3 x with hsg3 | hsg3 | hsg3
                · have KN2 := hide (kn_l2 y HKN.out hsg3)
                  have B2 := hide (BXe.out.set 0 (.int .i64 ((l + 2 : Nat) : Int)))
                  have R2 := hide (RPE.out.set (i := 0) (x := .int .i64 ((l + 2 : Nat) : Int)) BXe.out)
                  rw [hsg3]
                  clear hsg3
                  go_wp2
                  go_roundw
                  case rel => exact ⟨k + 1, _, l + 2, m, r, by omega, by go_num, by rw [enn.out]; exact R2.out, by rw [enn.out]; exact KN2.out, RE2.out, B2.out, GS.out _ _⟩
                  case measure => simp [intOf]; omega
                · have KN2 := hide (kn_m2 y HKN.out hsg3)
                  have B2 := hide (BXe.out.set 1 (.int .i64 ((m + 2 : Nat) : Int)))
                  have R2 := hide (RPE.out.set (i := 1) (x := .int .i64 ((m + 2 : Nat) : Int)) BXe.out)
                  rw [hsg3]
                  clear hsg3
                  go_wp2
                  go_roundw
                  case rel => exact ⟨k + 1, _, l, m + 2, r, by omega, by go_num, by rw [enn.out]; exact R2.out, by rw [enn.out]; exact KN2.out, RE2.out, B2.out, GS.out _ _⟩
                  case measure => simp [intOf]; omega
                · have KN2 := hide (kn_r2 y HKN.out hsg3)
                  have B2 := hide (BXe.out.set 2 (.int .i64 ((r + 2 : Nat) : Int)))
                  have R2 := hide (RPE.out.set (i := 2) (x := .int .i64 ((r + 2 : Nat) : Int)) BXe.out)
                  rw [hsg3]
                  clear hsg3
                  go_wp2
                  go_roundw
                  case rel => exact ⟨k + 1, _, l, m, r + 2, by omega, by go_num, by rw [enn.out]; exact R2.out, by rw [enn.out]; exact KN2.out, RE2.out, B2.out, GS.out _ _⟩
                  case measure => simp [intOf]; omega
            · have hke : k = np := by omega
              have hdk : decide (k < np) = false := decide_eq_false hlt2
              have hAb : 131074 + nr * 131075 + k * 262153 ≤ 1704100 := by omega
              obtain ⟨A, hA⟩ : ∃ x, x = 131074 + nr * 131075 + k * 262153 := ⟨_, rfl⟩
              rw [← hA] at HRP HREP hAb
              have hA1 : 1 ≤ A := by omega
              obtain ⟨bb0, bb1, bb2, f0, f1, f2⟩ := HBOX.out.i3
              have HPL := hide HKN.out.1
              clear hA hke
              go_wp2_with fail
              refine (texts_at _ nn P A wr HRP.out (by omega) (by omega)).mono ?_
              rintro e w5 ⟨v5, rfl, r5, g5⟩
              have R5 := hide r5
              have G5b := hide (gr_none HGR.out g5)
              have G5c := hide g5
              obtain ⟨o5, c5, rfl, hc5, hm5, hx5⟩ := r5
              unfold maxLen at hm5
              clear g5 hx5
              have PQ := hide (poly_texts HPL.out.1)
              have SZ : Hid (∀ i (h : i < (textsL P nn).length), ((textsL P nn)[i]).size ≤ 600000000 ∧ ((textsL P nn)[i]).size + 1 ≤ 1000000000000) := by
                intro i h
                have e : ((textsL P nn)[i]) = ⟨(qtext (P i)).toArray⟩ := by simp [textsL]
                rw [e]
                have h2 := qtext_len (q := P i) (L := A) (HREP.out.fit i) (by omega)
                have h3 : (⟨(qtext (P i)).toArray⟩ : ByteArray).size = (qtext (P i)).length := rfl
                omega
              have hvb : vB A 1 ≤ 1000000000000 := by
                unfold vB
                have : 3 ^ (13 - 1) * (A + 3) ≤ 531441 * 1704103 := Nat.mul_le_mul (by decide) (by omega)
                omega
              have HVB := hide hvb
              rw [textsL_length] at hc5 ⊢
              clear hvb
              go_wp2_with fail
              refine (count_rep _ (textsL P nn) A 1000000000000 w5 (by have h := R5.out; rw [textsL_length] at h; exact h) (HM.out.keep0 G5b.out) SZ.out (by rw [PQ.out]; exact HREP.out) hA1 (by decide) HVB.out).mono ?_
              rintro e w6 ⟨g6, qa, qb, qc, qf, rfl, hcnt⟩
              have G6 := hide (gr_none G5b.out g6)
              obtain ⟨bc0, bc1, bc2, fc0, fc1, fc2⟩ := ((HBOX.out.keep0 G5c.out).keep0 g6).i3
              have hans : qf = 0 ∧ qa = l ∧ qb = m ∧ qc = r := by
                rw [PQ.out, textsL_length] at hcnt
                rcases hcnt with ⟨h1, _⟩ | ⟨_, h1, _⟩ | ⟨_, n2, _, _, h3, h4, h5⟩
                · omega
                · have := PL_uniq h1 HPL.out
                  omega
                · have e2 := PL_uniq h3 HPL.out
                  rw [e2] at h5
                  obtain ⟨k1, k2, k3⟩ := K.kn_count HKN.out h5
                  exact ⟨h4, k1, k2, k3⟩
              obtain ⟨rfl, rfl, rfl, rfl⟩ := hans
              clear g6 hcnt bb0 bb1 bb2 f0 f1 f2
              have heq3 : ∀ wx, (Op.equalIn 10000 31 (.agg #[.int .i64 (l : Int), .int .i64 (m : Int), .int .i64 (r : Int)]) (.agg #[.int .i64 (l : Int), .int .i64 (m : Int), .int .i64 (r : Int)])).run Tryz.prog wx = .ok true wx := fun wx => eq3 _ _ _ wx
              go_wp2
              go_ret
              exact ⟨by first | rfl | simp, G6.out⟩
end Go.Proofs.YtklkpkkjakllfaaGreatDoor
