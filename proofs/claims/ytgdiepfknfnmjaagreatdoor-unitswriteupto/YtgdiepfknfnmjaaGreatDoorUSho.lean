/- The reference: ShowQuantity: the walk. -/
import Derived.Test.YtgdiepfknfnmjaaGreatDoorMW1
import Derived.Test.YtgdiepfknfnmjaaGreatDoorRMulN
import Derived.Test.YtgdiepfknfnmjaaGreatDoorRCmp
import Derived.Test.YtgdiepfknfnmjaaGreatDoorRRead2
import Derived.Test.YtgdiepfknfnmjaaGreatDoorUShoU
import Derived.Deep.DeepCutAuto
namespace Go.Proofs.YtgdiepfknfnmjaaGreatDoor
open Go.RowKit Go.Lib
set_option linter.unusedVariables false
set_option linter.unusedSimpArgs false

/-- The number a, or nothing, where a is 0. -/
def RQ0 (w : World) (b : Nat) (a : Rat) (L : Nat) : Prop := RQ w b a L ∨ (a = 0 ∧ RNil w b L)

theorem RQ0.keep0 {w w' : World} {b L : Nat} {a : Rat} (h : RQ0 w b a L) (hg : w.grownBy w' none) : RQ0 w' b a L := by
  rcases h with h | ⟨h, k⟩
  · exact .inl (h.keep0 hg)
  · exact .inr ⟨h, k.keep0 hg⟩

theorem RQ0.mono {w : World} {b L L' : Nat} {a : Rat} (h : RQ0 w b a L) (hl : L ≤ L') : RQ0 w b a L' := by
  rcases h with h | ⟨h, k⟩
  · exact .inl (h.mono hl)
  · exact .inr ⟨h, k.1.mono hl, k.2.mono hl⟩

theorem RQ0.num {w : World} {b L : Nat} {a : Rat} (h : RQ0 w b a L) : IntAt w b 0 a.num L := by
  rcases h with h | ⟨h, k⟩
  · exact h.1
  · rw [h]; exact k.1

theorem RQ0.some {w : World} {b L : Nat} {a : Rat} (h : RQ0 w b a L) (ha : a ≠ 0) : RQ w b a L := by
  rcases h with h | ⟨h, k⟩
  · exact h
  · exact absurd h ha

theorem neg_num {q : Rat} : q < 0 ↔ q.num < 0 := by
  rw [Rat.lt_iff]
  simp

theorem abs_num (q : Rat) : 0 ≤ (absR q).num := by
  unfold absR
  split
  · rename_i h
    have := neg_num.1 h
    show 0 ≤ -q.num
    omega
  · rename_i h
    have : ¬ q.num < 0 := fun k => h (neg_num.2 k)
    omega

theorem num_pos_iff {q : Rat} : 0 < q ↔ 0 < q.num := by
  rw [Rat.lt_iff]
  simp

theorem pow_pos10 (e : Int) : (0 : Rat) < (10 : Rat) ^ e := Rat.zpow_pos (by decide +kernel)

/-- What Cmp tells of a number above 0 and a power of ten. -/
theorem cmp_pow {a : Rat} (ha : 0 < a.num) (e : Int) : (0 ≤ ord (rN a * ((10 : Rat) ^ e).den) (rN ((10 : Rat) ^ e) * a.den)) ↔ (10 : Rat) ^ e ≤ a := by
  have h2 := num_pos_iff.1 (pow_pos10 e)
  have s1 : a.num.sign = 1 := Int.sign_eq_one_of_pos ha
  have s2 : ((10 : Rat) ^ e).num.sign = 1 := Int.sign_eq_one_of_pos h2
  have := cmp_same a ((10 : Rat) ^ e) (by rw [s1, s2])
  rw [s1, Int.one_mul] at this
  rw [this]
  exact cmp_ge _ _

theorem itext_lenB {w : World} {b o : Nat} {z : Int} {L : Nat} (h : IntAt w b o z L) (hL : L ≤ 40000000) : (itext z).length ≤ 400000002 := by
  obtain ⟨_, _, _, h2, _⟩ := h
  have h3 := num_lt h2
  have h4 : (Lib.decDigits z.natAbs).length ≤ 400000001 := by
    rw [Lib.decDigits_length]
    rcases Nat.eq_zero_or_pos L with e | e
    · subst e
      have : z.natAbs = 0 := by simpa using h3
      rw [this, Lib.nDigits_small (by decide)]
      omega
    · have := digits_le e h3
      omega
  unfold itext
  split
  · simp; omega
  · omega

theorem catB (a b : List UInt8) : (⟨a.toArray⟩ : ByteArray) ++ ⟨b.toArray⟩ = ⟨(a ++ b).toArray⟩ := by
  apply ByteArray.ext
  rw [ByteArray.data_append]
  simp

theorem pointB (T : List UInt8) (m : Nat) : (⟨T.toArray⟩ : ByteArray).extract 0 m ++ ⟨#[46]⟩ ++ (⟨T.toArray⟩ : ByteArray).extract m (⟨T.toArray⟩ : ByteArray).size = ⟨(T.take m ++ 46 :: T.drop m).toArray⟩ := by
  apply ByteArray.ext
  apply Array.toList_inj.1
  rw [ByteArray.data_append, ByteArray.data_append, ByteArray.data_extract, ByteArray.data_extract, Array.toList_append, Array.toList_append, Array.toList_extract, Array.toList_extract]
  rw [size_of]
  simp [List.take_of_length_le]

/-- Noughts are laid ahead. -/
def NoughtR (w0 : World) (D : List UInt8) (P : Nat) (g : Nat) (dv : Value) (wr : World) : Prop :=
  ∃ j : Nat, dv = .string ⟨(List.replicate j 48 ++ D).toArray⟩ ∧ (j = 0 ∨ j + D.length ≤ P + 1) ∧ w0.grownBy wr none ∧ g = P + 1 - (j + D.length)

theorem scaled_pos {a : Rat} (ha : 0 ≤ a.num) (z : Int) : 0 ≤ (a * (10 : Rat) ^ z).num := by
  have h1 : 0 ≤ a := Rat.num_nonneg.1 ha
  exact Rat.num_nonneg.2 (Rat.mul_nonneg h1 (Rat.le_of_lt (pow_pos10 z)))

theorem pwr_bounds : ∀ i < 10, -15 ≤ pwr i ∧ pwr i ≤ 12 := by decide

theorem run_max2 {P : Program} (w : World) (ts : Array TypeId) (t : TypeId) (x y : Nat) : (Builtin.max_ ts t #[.int .i64 (x : Nat), .int .i64 (y : Nat)]).run P w = .ok (.int .i64 ((max x y : Nat) : Int)) w := by
  have e : (if (x : Int) < (y : Int) then (y : Int) else (x : Int)) = ((max x y : Nat) : Int) := by
    split <;> omega
  simp [Builtin.max_, Builtin.max2]
  split <;> omega

/-- Twos, or fives, are taken off. -/
def StripR (wC : World) (bd bf f d0 L : Nat) (g : Nat) (kv : Value) (wr : World) : Prop :=
  ∃ k e : Nat, kv = .int .i64 (k : Nat) ∧ IntAt wr bd 0 (e : Nat) L ∧ d0 = f ^ k * e ∧ 0 < e ∧ wC.grownBy wr none ∧ g = e ∧ wr.cell? ⟨bf, 1, none⟩ = some (.int .i64 5)

/-- The walk over the powers. -/
def PickR (w0 : World) (es : Array MapEntry) (clock bm r : Nat) (a : Rat) (bv pv : Value) (wx : World) : Prop :=
  ∃ (p : List UInt8) (e : Int), bv = .int .i64 e ∧ pv = .string ⟨p.toArray⟩ ∧ (p, e) ∈ pwL ∧ okP p = true ∧ (e = -15 ∨ (10 : Rat) ^ e ≤ a) ∧ SeenP w0 es clock bm r (fun p' e' => okP p' = true → (10 : Rat) ^ e' ≤ a → e' ≤ e) wx

set_option maxHeartbeats 16000000 in
set_option maxRecDepth 10000 in
theorem show_q (s u : ByteArray) (m : Int) (w : World) (hs : s.size ≤ 1048576) (hus : u.size ≤ 1048576) (hu : unitR u.data.toList = some u.data.toList) (hml : w.cell? ⟨5, 0, none⟩ = some (.int .i64 m)) (hpm : PM w) (hum : UMB w) :
    Calls Tryz.prog 9 #[.string s, .string u] w fun e w' => e = .returned (priV (printR (ofR s.data.toList) u.data.toList)) ∧ w.grownBy w' none := by
  obtain ⟨bm2, u1, u2, u3⟩ := hum
  have hlk := u3 w rfl u (by omega)
  rw [unitV, hu] at hlk
  simp only at hlk
  rw [show (⟨u.data.toList.toArray⟩ : ByteArray) = u from rfl] at hlk
  have HML := hide hml
  have HPM := hide hpm
  have HU := hide hu
  obtain ⟨q, hq⟩ : ∃ q, q = ofR s.data.toList := ⟨_, rfl⟩
  rw [← hq]
  have HQ := hide hq.symm
  clear u2 u3 hml hpm hu hq
  go_enter Tryz.func9, Tryz.ntmps9
  go_wp2_with fail
  refine (rOf_at s m _ (by omega) HML.out).mono ?_
  rintro e w1 ⟨b0, rfl, g1, hr⟩
  rw [HQ.out] at hr
  have G1 := hide g1
  clear g1 hlk
  · have R0 : Hid (RQ0 w1 b0 q (3 * s.size + 8)) := hr
    clear hr
    go_wp2_with fail
    refine (ratSign_at b0 q.num (3 * s.size + 8) _ R0.out.num).mono ?_
    rintro e w2 ⟨rfl, hw2⟩
    rw [hw2]
    clear hw2
    go_upto_if 37 with fail
    go_cut [8, 9] (fun s8 s9 wx => Hid (∃ b1, s8 = .pointer (some ⟨b1, 0, none⟩) ∧ s9 = .string ⟨(if q < 0 then ([45] : List UInt8) else []).toArray⟩ ∧ RQ0 wx b1 (absR q) (3 * s.size + 10) ∧ w.grownBy wx none))
    case first =>
      by_cases hn : q < 0
      · have hs1 : sgn q.num < 0 := by have := neg_num.1 hn; unfold sgn; rw [if_pos this]; decide
        go_wp2_with fail
        refine (rNeg_at b0 _ _ _ (R0.out.some (fun e => by rw [e] at hn; exact absurd hn (by decide +kernel))) (by omega)).mono ?_
        rintro e w6 ⟨b6, rfl, n1, n2, n3⟩
        have V6 := hide n1
        have G6 := hide (gr_none G1.out n2)
        clear n1 n2 n3
        go_wp2_with fail
        go_meet
        exact ⟨b6, rfl, by rw [if_pos hn], by unfold absR; rw [if_pos hn]; exact .inl (V6.out.mono (by omega)), G6.out⟩
      · have hs1 : 0 ≤ sgn q.num := by
          have : ¬ q.num < 0 := fun h => hn (neg_num.2 h)
          unfold sgn
          rw [if_neg this]
          split <;> decide
        go_wp2_with fail
        go_meet
        exact ⟨b0, rfl, by rw [if_neg hn], by unfold absR; rw [if_neg hn]; exact R0.out.mono (by omega), G1.out⟩
    case rest =>
      obtain ⟨wA, hwA⟩ : ∃ x, x = wc := ⟨_, rfl⟩
      obtain ⟨b1, rfl, rfl, vr, gA⟩ := hcut.out
      rw [← hwA] at vr gA ⊢
      clear hcut hwA R0
      obtain ⟨SG, hSG⟩ : ∃ x : ByteArray, x = ⟨(if q < 0 then ([45] : List UInt8) else []).toArray⟩ := ⟨_, rfl⟩
      rw [← hSG]
      have HSG := hide hSG
      have ha0 := abs_num q
      obtain ⟨a, ha⟩ : ∃ a, a = absR q := ⟨_, rfl⟩
      rw [← ha] at vr ha0
      have HA := hide ha
      have VA := hide vr
      have GA := hide gA
      clear vr gA ha hSG
      go_wp2_with fail
      refine (ratSign_at b1 a.num (3 * s.size + 10) _ VA.out.num).mono ?_
      rintro e w2 ⟨rfl, hw2⟩
      rw [hw2]
      clear hw2
      go_upto_if 42 with fail
      go_cut [10, 11, 12, 13] (fun s10 s11 s12 s13 wx => Hid (s10 = .int .i64 (pwr (pfi a)) ∧ s11 = .string ⟨(ptx (pfi a)).toArray⟩ ∧ wA.grownBy wx none))
      case first =>
        by_cases h0 : a.num = 0
        · have hz : a = 0 := Rat.num_eq_zero.1 h0
          have hs1 : ¬ 0 < sgn a.num := by rw [h0]; decide
          have hpf : Hid (pfi a = 4) := by show pfi a = 4; rw [hz]; decide +kernel
          clear h0 hz
          go_wp2_with fail
          go_meet
          exact ⟨by rw [hpf.out]; rfl, by rw [hpf.out]; rfl, gr_refl _ _⟩
        · have hpos : 0 < a.num := by omega
          have hs1 : sgn a.num = 1 := by unfold sgn; rw [if_neg (by omega), if_pos hpos]
          rw [hs1]
          clear hs1
          have hne : Hid (a ≠ 0) := fun e => h0 (by rw [e]; rfl)
          have HPOS := hide hpos
          obtain ⟨bm, es, clock, m1, m2, m3, m4, m5⟩ := HPM.out.keep0 GA.out
          have M3 := hide m3
          have M4 := hide m4
          have M5 := hide m5
          have HBY := hide m2
          have hrg := run_range_map (P := Tryz.prog) wA 65 9 3 bm es clock Tryz.underlying65 m2
          have na : Hid (a.num = (rN a : Int)) := by show a.num = (a.num.natAbs : Int); omega
          clear h0 hpos m2 m3 m4 m5
          go_wp2
          go_loopw [10, 11] (fun bv pv wx => Hid (PickR wA es clock bm wA.heap.size a bv pv wx)) (fun _ _ wx => (leftOf es (wx.iterSeen wA.heap.size)).size)
          case atStart => exact ⟨[102], -15, rfl, rfl, by decide, by decide, .inl rfl, seenP_start (gr_refl _ _)⟩
          case round =>
            obtain ⟨p, e, rfl, rfl, k1, k2, k3, k4⟩ := hrel.out
            have he := pw_le k1
            obtain ⟨he1, he2⟩ := he
            have K1 := hide k1
            have K2 := hide k2
            have K3 := hide k3
            rcases seenP_next k4 HBY.out M3.out M4.out M5.out with ⟨hall, g7, hnx⟩ | ⟨PB, e', w7, hm, hnx, hen, g7, hse⟩
            · obtain ⟨hb, hp⟩ := pick_is hne.out K1.out K2.out K3.out hall
              have HB := hide hb
              have HP := hide hp
              have G7 := hide g7
              clear hall g7 hb hp hrel k1 k2 k3 k4 hrg
              go_wp2_with fail
              go_meet
              exact ⟨by rw [← HB.out], by rw [← HP.out], G7.out⟩
            · obtain ⟨hf1, hf2⟩ := pw_le hm
              have HM := hide hm
              have HSE := hide hse
              have G7 := hide g7
              clear hm hse g7 hrel k1 k2 k3 k4 hrg
              by_cases h1 : PB = ⟨#[117]⟩
              · subst h1
                have NQ : Hid (okP (⟨#[117]⟩ : ByteArray).data.toList = true → (10 : Rat) ^ e' ≤ a → e' ≤ e) := fun h => absurd h (by decide)
                go_wp2
                go_roundw
                case rel => exact ⟨p, e, rfl, rfl, K1.out, K2.out, K3.out, (HSE.out _ (gr_refl _ _) _ (fun _ _ h => h) NQ.out).1⟩
                case measure => exact (HSE.out _ (gr_refl _ _) _ (fun _ _ h => h) NQ.out).2
              · by_cases h2 : PB = ⟨#[206, 188]⟩
                · subst h2
                  have NQ : Hid (okP (⟨#[206, 188]⟩ : ByteArray).data.toList = true → (10 : Rat) ^ e' ≤ a → e' ≤ e) := fun h => absurd h (by decide)
                  go_wp2
                  go_roundw
                  case rel => exact ⟨p, e, rfl, rfl, K1.out, K2.out, K3.out, (HSE.out _ (gr_refl _ _) _ (fun _ _ h => h) NQ.out).1⟩
                  case measure => exact (HSE.out _ (gr_refl _ _) _ (fun _ _ h => h) NQ.out).2
                · have hok : Hid (okP PB.data.toList = true) := by
                    show okP _ = true
                    unfold okP
                    rw [Bool.and_eq_true]
                    constructor
                    · simp only [bne_iff_ne]
                      exact fun h => h1 (bytes_eq h)
                    · simp only [bne_iff_ne]
                      exact fun h => h2 (bytes_eq h)
                  have h1' : ¬ PB.toList = [117] := by rw [ByteArray.toList_eq]; exact fun h => h1 (bytes_eq h)
                  have h2' : ¬ PB.toList = [206, 188] := by rw [ByteArray.toList_eq]; exact fun h => h2 (bytes_eq h)
                  have hb1 : (PB.toList == [117]) = false := beq_eq_false_iff_ne.2 h1'
                  have hb2 : (PB.toList == [206, 188]) = false := beq_eq_false_iff_ne.2 h2'
                  by_cases h3 : e < e'
                  · go_wp2_with fail
                    refine (rTen_at e' _ (by omega) (by omega)).mono ?_
                    rintro x wt ⟨bt, rfl, t1, t2⟩
                    have T1 := hide t1
                    have GT := hide t2
                    clear t1 t2
                    have nt : Hid (((10 : Rat) ^ e').num = (rN ((10 : Rat) ^ e') : Int)) := by
                      have := num_pos_iff.1 (pow_pos10 e')
                      show _ = ((((10 : Rat) ^ e').num.natAbs : Nat) : Int)
                      omega
                    go_wp2_with fail
                    refine (ratCmp_at b1 bt a ((10 : Rat) ^ e') (rN a) (rN ((10 : Rat) ^ e')) _ _ _ ((VA.out.some hne.out).keep0 (gr_none G7.out GT.out)) T1.out na.out nt.out (by omega)).mono ?_
                    rintro x wz ⟨rfl, gz⟩
                    have GZ := hide (gr_none GT.out gz)
                    clear gz
                    have hcmp := cmp_pow HPOS.out e'
                    by_cases h4 : (10 : Rat) ^ e' ≤ a
                    · have h5 := hcmp.2 h4
                      generalize ord (rN a * ((10 : Rat) ^ e').den) (rN ((10 : Rat) ^ e') * a.den) = oo at h5 ⊢
                      have H4 := hide h4
                      clear hcmp h4
                      go_wp2
                      go_roundw
                      case rel =>
                        (repeat apply Exists.intro)
                        exact ⟨⟨PB.data.toList, e', rfl, rfl, HM.out, hok.out, .inr H4.out, (HSE.out _ GZ.out (fun p' e'' => okP p' = true → (10 : Rat) ^ e'' ≤ a → e'' ≤ e') (fun _ _ h k l => by have := h k l; omega) (fun _ _ => Int.le_refl _)).1⟩, rfl⟩
                      case measure => exact (HSE.out _ GZ.out (fun p' e'' => okP p' = true → (10 : Rat) ^ e'' ≤ a → e'' ≤ e') (fun _ _ h k l => by have := h k l; omega) (fun _ _ => Int.le_refl _)).2
                    · have h5 : ¬ 0 ≤ ord (rN a * ((10 : Rat) ^ e').den) (rN ((10 : Rat) ^ e') * a.den) := fun h => h4 (hcmp.1 h)
                      generalize ord (rN a * ((10 : Rat) ^ e').den) (rN ((10 : Rat) ^ e') * a.den) = oo at h5 ⊢
                      have NQ : Hid (okP PB.data.toList = true → (10 : Rat) ^ e' ≤ a → e' ≤ e) := fun _ h => absurd h h4
                      clear hcmp h4
                      go_wp2
                      go_roundw
                      case rel =>
                        (repeat apply Exists.intro)
                        exact ⟨⟨p, e, rfl, rfl, K1.out, K2.out, K3.out, (HSE.out _ GZ.out _ (fun _ _ h => h) NQ.out).1⟩, rfl⟩
                      case measure => exact (HSE.out _ GZ.out _ (fun _ _ h => h) NQ.out).2
                  · have NQ : Hid (okP PB.data.toList = true → (10 : Rat) ^ e' ≤ a → e' ≤ e) := fun _ _ => by omega
                    go_wp2
                    go_roundw
                    case rel => exact ⟨p, e, rfl, rfl, K1.out, K2.out, K3.out, (HSE.out _ (gr_refl _ _) _ (fun _ _ h => h) NQ.out).1⟩
                    case measure => exact (HSE.out _ (gr_refl _ _) _ (fun _ _ h => h) NQ.out).2
      case rest =>
        obtain ⟨wB, hwB⟩ : ∃ x, x = wc := ⟨_, rfl⟩
        obtain ⟨rfl, rfl, gB⟩ := hcut.out
        rw [← hwB] at gB ⊢
        clear hcut hwB
        have VB := hide (VA.out.keep0 gB)
        have GB := hide (gr_none GA.out gB)
        clear gB VA GA
        have hi10 := pfi_lt a
        obtain ⟨i, hi⟩ : ∃ i, i = pfi a := ⟨_, rfl⟩
        rw [← hi] at hi10 ⊢
        have HI := hide hi
        have hpb : -15 ≤ pwr i ∧ pwr i ≤ 12 := pwr_bounds i hi10
        obtain ⟨hpb1, hpb2⟩ := hpb
        obtain ⟨pe, hpe⟩ : ∃ z, z = pwr i := ⟨_, rfl⟩
        rw [← hpe] at hpb1 hpb2 ⊢
        have HPE := hide hpe
        clear hi hpe
        go_wp2_with fail
        refine (rTen_at (-pe) _ (by omega) (by omega)).mono ?_
        rintro x wt ⟨bt, rfl, t1, t2⟩
        have T1 := hide t1
        have GT := hide t2
        clear t1 t2
        obtain ⟨r, hr⟩ : ∃ r, r = a * (10 : Rat) ^ (-pe) := ⟨_, rfl⟩
        obtain ⟨LD, hLD⟩ : ∃ L, L = 3 * s.size + 200 := ⟨_, rfl⟩
        have HR := hide hr
        have hLDb : LD ≤ 4000000 := by omega
        have MULT : Hid (Calls Tryz.prog 25 #[.pointer (some ⟨b1, 0, none⟩), .pointer (some ⟨bt, 0, none⟩)] wt fun e w' => ∃ b, e = .returned (.pointer (some ⟨b, 0, none⟩)) ∧ RQ w' b r LD ∧ wt.grownBy w' none) := by
          rcases VB.out with h | ⟨h, k⟩
          · refine (rMul_at b1 bt _ _ _ _ _ (h.keep0 GT.out) T1.out (by omega)).mono ?_
            rintro x w' ⟨b, rfl, v1, v2, v3⟩
            exact ⟨b, rfl, by rw [hr]; exact v1.mono (by omega), v2⟩
          · refine (rMul_nil b1 bt _ _ _ _ (k.keep0 GT.out) T1.out (by omega) (by omega)).mono ?_
            rintro x w' ⟨b, rfl, v1, v2, v3⟩
            exact ⟨b, rfl, by rw [hr, h, Rat.zero_mul]; exact v1.mono (by omega), v2⟩
        go_wp2_with fail
        refine MULT.out.mono ?_
        rintro x wC ⟨br, rfl, v1, v2⟩
        have GC := hide (gr_none GB.out (gr_none GT.out v2))
        have VC := hide v1
        clear v1 v2 hr VB T1 GT hLD MULT
        obtain ⟨d, hd⟩ : ∃ d, d = r.den := ⟨_, rfl⟩
        have hd0 : 0 < d := by rw [hd]; exact r.den_pos
        have hdB : d < 2 ^ (4 * (s.data.toList.length + 14)) := by
          rw [hd, HR.out, HPE.out, HA.out, ← HQ.out]
          exact den_small _ i hi10
        have hB : 4 * (s.data.toList.length + 14) ≤ 4200000 := by rw [← Lib.size_eq]; omega
        obtain ⟨BB, hBB⟩ : ∃ B, B = 4 * (s.data.toList.length + 14) := ⟨_, rfl⟩
        rw [← hBB] at hdB hB
        have HD := hide hd
        have HDB := hide hdB
        clear hd hBB hdB
        go_wp2_with fail
        have ga : wC.grownBy (wC.alloc (.cells #[.bool false, .slice none 0 0] 56)) none := gr_alloc (gr_refl _ _) _
        have GA1 := hide ga
        clear ga
        refine (denom_at br r LD _ (VC.out.keep0 GA1.out) (by omega)).mono ?_
        rintro x wd ⟨cd, rfl, d1, d2⟩
        have D1 := hide d1
        have D2 := hide d2
        clear d1 d2
        go_wp2_with fail
        refine (set_at wC.heap.size 0 cd 0 false (.slice none 0 0) (r.den : Int) LD _ ((newBox wC).keep0 D2.out) D1.out (by omega)).mono ?_
        rintro x wE ⟨rfl, p1, p2, p3⟩
        have GE : Hid (wC.grownBy wE none) := gr_of_put (gr_none GA1.out D2.out) p1 (Nat.le_refl _)
        rw [← HD.out] at p2
        have IE := hide p2
        clear p1 p2 p3 D1 D2
        obtain ⟨bd, hbd0⟩ : ∃ b, b = wC.heap.size := ⟨_, rfl⟩
        have hbd : wC.heap.size ≤ bd := by omega
        rw [← hbd0] at IE ⊢
        clear hbd0
        obtain ⟨WF, hWF⟩ : ∃ W, W = wE.alloc (Obj.cells #[.int .i64 2, .int .i64 5] 2) := ⟨_, rfl⟩
        have GF : Hid (wE.grownBy WF none) := by rw [hWF]; exact gr_alloc (gr_refl _ _) _
        have hFe : WF.heap[wE.heap.size]? = some (Obj.cells #[.int .i64 2, .int .i64 5] 2 (0, 0)) := by
          rw [hWF]
          exact heap_alloc_new wE _
        have f0 : WF.cell? ⟨wE.heap.size, 0, none⟩ = some (.int .i64 2) := by simp [World.cell?, hFe]
        have f1 : WF.cell? ⟨wE.heap.size, 1, none⟩ = some (.int .i64 5) := by simp [World.cell?, hFe]
        have hbdl := IE.out.lt
        clear hFe
        go_wp2
        rw [← hWF]
        clear hWF
        obtain ⟨bf, hbf0⟩ : ∃ b, b = wE.heap.size := ⟨_, rfl⟩
        have hbf : bf ≠ bd := by omega
        rw [← hbf0] at f0 f1 ⊢
        clear hbf0 hbdl
        refine wp_loop_rounds 3 ?_
        rw [rounds_succ]
        go_wp2
        go_loopg [18] d (fun g kv wr => Hid (StripR wC bd bf 2 d LD g kv wr))
        case atStart => exact ⟨0, d, rfl, IE.out.keep0 GF.out, by rw [Nat.pow_zero, Nat.one_mul], hd0, gr_none GE.out GF.out, rfl, f1⟩
        case round =>
          obtain ⟨k, e, rfl, k1, k2, k3, k4, k5, k6⟩ := hrel.out
          have hkB := strip_small (f := 2) (by decide) k3 k2 HDB.out
          have K1 := hide k1
          have K2 := hide k2
          have K4 := hide k4
          have K6 := hide k6
          clear k1 k2 k4 k6 hrel
          go_wp2_with fail
          have ga : wr.grownBy (wr.alloc (.cells #[.bool false, .slice none 0 0] 56)) none := gr_alloc (gr_refl _ _) _
          have GA2 := hide ga
          clear ga
          refine (newInt_at 2 _ (by omega) (by omega)).mono ?_
          rintro x wn ⟨rfl, n1, n2, n3⟩
          have N1 := hide n1
          have N2 : Hid (IntAt wn (wr.heap.size + 1) 0 ((2 : Nat) : Int) 2) := by
            have hsz : (wr.alloc (.cells #[.bool false, .slice none 0 0] 56)).heap.size = wr.heap.size + 1 := by simp
            rw [hsz] at n2
            exact n2
          clear n1 n2 n3
          go_wp2_with fail
          refine (mod_at wr.heap.size bd (wr.heap.size + 1) false (.slice none 0 0) e 2 LD 2 _ ((newBox wr).keep0 N1.out) ((K1.out.keep0 GA2.out).keep0 N1.out) N2.out (by decide) (by omega) (by omega)).mono ?_
          rintro x wm ⟨rfl, p1, p2⟩
          have P2 := hide p2
          have GM : Hid (wr.grownBy wm none) := gr_of_put (gr_none GA2.out N1.out) p1 (Nat.le_refl _)
          clear p1 p2
          go_wp2_with fail
          refine (intSign_at wr.heap.size 0 ((e % 2 : Nat) : Int) _ _ P2.out).mono ?_
          rintro x ws ⟨rfl, hws⟩
          rw [hws]
          clear hws
          by_cases hm : e % 2 = 0
          · have hsg : (sgn ((e % 2 : Nat) : Int) == 0) = true := by rw [hm]; rfl
            go_wp2_with fail
            refine (newInt_at 2 _ (by omega) (by omega)).mono ?_
            rintro x wo ⟨rfl, n1, n2, n3⟩
            have O1 := hide n1
            have O2 : Hid (IntAt wo wm.heap.size 0 ((2 : Nat) : Int) 2) := n2
            clear n1 n2 n3
            go_wp2_with fail
            refine (quo_self bd wm.heap.size e 2 LD 2 _ ((K1.out.keep0 GM.out).keep0 O1.out) O2.out (by decide) (by omega) (by omega)).mono ?_
            rintro x wq ⟨rfl, p1, p2⟩
            have Q2 := hide p2
            have GQ : Hid (wC.grownBy wq none) := gr_of_put (gr_none K4.out (gr_none GM.out O1.out)) p1 hbd
            have CQ : Hid (wq.cell? ⟨bf, 1, none⟩ = some (.int .i64 5)) := p1.gr.cell ((gr_none GM.out O1.out).cell K6.out (by simp)) (fun h => hbf (Option.some.inj h))
            clear p1 p2
            go_wp2
            go_roundg (e / 2)
            case measure => rw [k5]; exact Nat.div_lt_self k3 (by decide)
            case rel =>
              refine ⟨k + 1, e / 2, by go_num, Q2.out, ?_, ?_, GQ.out, rfl, CQ.out⟩
              · rw [Nat.pow_succ, Nat.mul_assoc, Nat.mul_div_cancel' (Nat.dvd_of_mod_eq_zero hm)]
                exact K2.out
              · exact Nat.div_pos (Nat.le_of_dvd k3 (Nat.dvd_of_mod_eq_zero hm)) (by decide)
          · have hsg : (sgn ((e % 2 : Nat) : Int) == 0) = false := by
              apply beq_eq_false_iff_ne.2
              unfold sgn
              rw [if_neg (by omega), if_pos (by omega)]
              decide
            generalize sgn ((e % 2 : Nat) : Int) = sv at hsg ⊢
            have hmx : ∀ (W : World) (ts : Array TypeId) (t : TypeId), (Builtin.max_ ts t #[.int .i64 0, .int .i64 (k : Nat)]).run Tryz.prog W = .ok (.int .i64 (k : Nat)) W := fun W ts t => by have h := run_max2 (P := Tryz.prog) W ts t 0 k; rw [Nat.zero_max] at h; exact h
            have IM := hide (K1.out.keep0 GM.out)
            have GMC := hide (gr_none K4.out GM.out)
            have CM := GM.out.cell K6.out (by simp)
            clear K1 K4 K6 P2 N1 N2 GA2
            go_wp2
            obtain ⟨ka, hka⟩ : ∃ x, x = k := ⟨_, rfl⟩
            obtain ⟨ea, hea⟩ : ∃ x, x = e := ⟨_, rfl⟩
            obtain ⟨wm1, hwm1⟩ : ∃ x, x = wm := ⟨_, rfl⟩
            rw [← hka] at hkB K2 ⊢
            rw [← hea] at IM hm k3 K2
            rw [← hwm1] at IM GMC CM ⊢
            have hea0 : 0 < ea := k3
            have HEA := hide hm
            have KA := hide K2.out
            have IA := hide IM.out
            have GMA := hide GMC.out
            have heaB : Hid (ea < 2 ^ BB) := by
              have h1 : ea ≤ 2 ^ ka * ea := Nat.le_mul_of_pos_left _ (Nat.pow_pos (by decide))
              have h2 := HDB.out
              rw [KA.out] at h2
              exact Nat.lt_of_le_of_lt h1 h2
            have hkaB := hkB
            clear hka hea hwm1 hm k3 k5 K2 hsg hmx hkB IM GMC GM
            rw [rounds_succ]
            go_wp2
            go_loopg [18] ea (fun g kv wr => Hid (StripR wC bd bf 5 ea LD g kv wr))
            case atStart => exact ⟨0, ea, rfl, IA.out, by rw [Nat.pow_zero, Nat.one_mul], hea0, GMA.out, rfl, CM⟩
            case round =>
              obtain ⟨k, e, rfl, k1, k2, k3, k4, k5, k6⟩ := hrel.out
              have hkB := strip_small (f := 5) (by decide) k3 k2 heaB.out
              have K1 := hide k1
              have K2 := hide k2
              have K4 := hide k4
              have K6 := hide k6
              clear k1 k2 k4 k6 hrel
              go_wp2_with fail
              have ga : wr.grownBy (wr.alloc (.cells #[.bool false, .slice none 0 0] 56)) none := gr_alloc (gr_refl _ _) _
              have GA2 := hide ga
              clear ga
              refine (newInt_at 5 _ (by omega) (by omega)).mono ?_
              rintro x wn ⟨rfl, n1, n2, n3⟩
              have N1 := hide n1
              have N2 : Hid (IntAt wn (wr.heap.size + 1) 0 ((5 : Nat) : Int) 2) := by
                have hsz : (wr.alloc (.cells #[.bool false, .slice none 0 0] 56)).heap.size = wr.heap.size + 1 := by simp
                rw [hsz] at n2
                exact n2
              clear n1 n2 n3
              go_wp2_with fail
              refine (mod_at wr.heap.size bd (wr.heap.size + 1) false (.slice none 0 0) e 5 LD 2 _ ((newBox wr).keep0 N1.out) ((K1.out.keep0 GA2.out).keep0 N1.out) N2.out (by decide) (by omega) (by omega)).mono ?_
              rintro x wm ⟨rfl, p1, p2⟩
              have P2 := hide p2
              have GM : Hid (wr.grownBy wm none) := gr_of_put (gr_none GA2.out N1.out) p1 (Nat.le_refl _)
              clear p1 p2
              go_wp2_with fail
              refine (intSign_at wr.heap.size 0 ((e % 5 : Nat) : Int) _ _ P2.out).mono ?_
              rintro x ws ⟨rfl, hws⟩
              rw [hws]
              clear hws
              by_cases hm : e % 5 = 0
              · have hsg : (sgn ((e % 5 : Nat) : Int) == 0) = true := by rw [hm]; rfl
                go_wp2_with fail
                refine (newInt_at 5 _ (by omega) (by omega)).mono ?_
                rintro x wo ⟨rfl, n1, n2, n3⟩
                have O1 := hide n1
                have O2 : Hid (IntAt wo wm.heap.size 0 ((5 : Nat) : Int) 2) := n2
                clear n1 n2 n3
                go_wp2_with fail
                refine (quo_self bd wm.heap.size e 5 LD 2 _ ((K1.out.keep0 GM.out).keep0 O1.out) O2.out (by decide) (by omega) (by omega)).mono ?_
                rintro x wq ⟨rfl, p1, p2⟩
                have Q2 := hide p2
                have GQ : Hid (wC.grownBy wq none) := gr_of_put (gr_none K4.out (gr_none GM.out O1.out)) p1 hbd
                have CQ : Hid (wq.cell? ⟨bf, 1, none⟩ = some (.int .i64 5)) := p1.gr.cell ((gr_none GM.out O1.out).cell K6.out (by simp)) (fun h => hbf (Option.some.inj h))
                clear p1 p2
                go_wp2
                go_roundg (e / 5)
                case measure => rw [k5]; exact Nat.div_lt_self k3 (by decide)
                case rel =>
                  refine ⟨k + 1, e / 5, by go_num, Q2.out, ?_, ?_, GQ.out, rfl, CQ.out⟩
                  · rw [Nat.pow_succ, Nat.mul_assoc, Nat.mul_div_cancel' (Nat.dvd_of_mod_eq_zero hm)]
                    exact K2.out
                  · exact Nat.div_pos (Nat.le_of_dvd k3 (Nat.dvd_of_mod_eq_zero hm)) (by decide)
              · have hsg : (sgn ((e % 5 : Nat) : Int) == 0) = false := by
                  apply beq_eq_false_iff_ne.2
                  unfold sgn
                  rw [if_neg (by omega), if_pos (by omega)]
                  decide
                generalize sgn ((e % 5 : Nat) : Int) = sv at hsg ⊢
                have hmx : ∀ (W : World) (ts : Array TypeId) (t : TypeId), (Builtin.max_ ts t #[.int .i64 (ka : Nat), .int .i64 (k : Nat)]).run Tryz.prog W = .ok (.int .i64 ((max ka k : Nat) : Int)) W := fun W ts t => run_max2 W ts t ka k
                have IM := hide (K1.out.keep0 GM.out)
                have GMC := hide (gr_none K4.out GM.out)
                have CM := GM.out.cell K6.out (by simp)
                clear K1 K4 K6 P2 N1 N2 GA2
                go_wp2
                obtain ⟨kb, hkb⟩ : ∃ x, x = k := ⟨_, rfl⟩
                obtain ⟨g, hg⟩ : ∃ x, x = e := ⟨_, rfl⟩
                obtain ⟨wm2, hwm2⟩ : ∃ x, x = wm := ⟨_, rfl⟩
                rw [← hkb] at hkB K2 ⊢
                rw [← hg] at IM hm k3 K2
                rw [← hwm2] at IM GMC ⊢
                have HG5 := hide hm
                have HG0 := hide k3
                have KB := hide K2.out
                have IB := hide IM.out
                have GMB := hide GMC.out
                obtain ⟨PL, hPL⟩ : ∃ x, x = max ka kb := ⟨_, rfl⟩
                have hPLb : PL ≤ 4200000 := by omega
                rw [← hPL]
                have HPL := hide hPL
                clear hkb hg hwm2 hm k3 k5 K2 hsg hmx hkB IM GMC GM CM hPL
                rw [rounds_succ]
                go_wp2_with fail
                refine (newInt_at 1 _ (by omega) (by omega)).mono ?_
                rintro x wn1 ⟨rfl, n1, n2, n3⟩
                have N1 := hide n1
                have N2 : Hid (IntAt wn1 wm2.heap.size 0 ((1 : Nat) : Int) 2) := n2
                clear n1 n2 n3
                go_wp2_with fail
                refine (intCmp_at bd 0 wm2.heap.size 0 g 1 LD 2 _ (IB.out.keep0 N1.out) N2.out).mono ?_
                rintro x wp ⟨rfl, gp⟩
                have GP := hide (gr_none GMB.out (gr_none N1.out gp))
                clear gp N1 N2
                have hg2 : Hid (g % 2 ≠ 0) := by
                  intro h
                  apply HEA.out
                  rw [KB.out, Nat.mul_mod, h, Nat.mul_zero]
                by_cases hg1 : g = 1
                · subst hg1
                  have e1 : (ord 1 1 != 0) = false := by rw [ord_eq]; rfl
                  have hab : d = 2 ^ ka * 5 ^ kb := by
                    have h1 := KA.out
                    rw [KB.out, Nat.mul_one] at h1
                    exact h1
                  obtain ⟨n, hn⟩ : ∃ n, n = rN r := ⟨_, rfl⟩
                  have hcop : Nat.gcd n d = 1 := by rw [hn, HD.out]; exact r.reduced
                  obtain ⟨hz0, hz1⟩ := ends_at hcop hab
                  rw [← HPL.out] at hz0 hz1
                  have hrn : 0 ≤ r.num := by
                    rw [HR.out]
                    exact scaled_pos ha0 _
                  have hwh : rN r * 10 ^ PL % r.den = 0 := by
                    rw [← hn, ← HD.out, Nat.mul_mod, ← Nat.mod_mod n, ← Nat.mul_mod]
                    exact hz0
                  have hsc := scaled r hrn PL hwh
                  obtain ⟨NN, hNN⟩ : ∃ x, x = rN r * 10 ^ PL / r.den := ⟨_, rfl⟩
                  rw [← hNN] at hsc
                  have HSC := hide hsc
                  have HNN : Hid (NN = n * 10 ^ PL / d) := by show _ = _; rw [hNN, hn, HD.out]
                  have HZ0 := hide hz0
                  have HPE2 : Hid (printR q u.data.toList = if (decT n d PL).length ≤ 4000 then ((if q < 0 then [45] else []) ++ decT n d PL ++ (ptx i ++ u.data.toList), 0) else ([], 6)) := by
                    show _ = _
                    have h := print_ends q u.data.toList HU.out n d ka kb (by rw [hn, HR.out, HPE.out, HI.out, HA.out]) (by rw [HD.out, HR.out, HPE.out, HI.out, HA.out]) hab
                    rw [← HA.out, ← HI.out, ← HPL.out] at h
                    exact h
                  clear hab hn hcop hz0 hz1 hwh hsc hNN hrn
                  go_wp2_with fail
                  refine (rTenB_at (PL : Int) _ (by omega) (by omega)).mono ?_
                  rintro x wu ⟨bu, rfl, t1, t2⟩
                  have T1 := hide t1
                  have GU := hide (gr_none GP.out t2)
                  clear t1 t2
                  go_wp2_with fail
                  refine (rMul_at br bu r _ LD (4 + 6 * PL) _ (VC.out.keep0 GU.out) (T1.out.mono (by omega)) (by omega)).mono ?_
                  rintro x wv ⟨bv, rfl, v1, v2, v3⟩
                  rw [HSC.out] at v1
                  have V1 := hide v1
                  have GV := hide (gr_none GU.out v2)
                  clear v1 v2 v3 T1
                  go_wp2_with fail
                  refine (num_at bv _ _ _ V1.out).mono ?_
                  rintro x wy ⟨rfl, hwy⟩
                  rw [hwy]
                  clear hwy
                  have hint : IntAt wv bv 0 (NN : Int) (LD + (4 + 6 * PL) + 2) := by
                    have h := V1.out.1
                    rw [Rat.num_intCast] at h
                    exact h
                  have hil := itext_lenB hint (by omega)
                  have HINT := hide hint
                  clear hint
                  go_wp2_with fail
                  refine (intString_at bv 0 (NN : Int) _ _ HINT.out (by omega)).mono ?_
                  rintro x wz ⟨rfl, gz⟩
                  have GZ := hide (gr_none GV.out gz)
                  clear gz
                  rw [itext_nat] at hil ⊢
                  obtain ⟨DD, hDD⟩ : ∃ x, x = Lib.decDigits NN := ⟨_, rfl⟩
                  rw [← hDD] at hil ⊢
                  have HDD := hide hDD
                  clear hDD HINT V1 GU GV
                  go_wp2
                  go_loopg [19] (PL + 1 - DD.length) (fun g dv wr => Hid (NoughtR wC DD PL g dv wr))
                  case atStart => exact ⟨0, rfl, .inl rfl, GZ.out, by omega⟩
                  case round =>
                    obtain ⟨j, rfl, j1, j2, j3⟩ := hrel.out
                    obtain ⟨TB, hTB⟩ : ∃ t : ByteArray, t = ⟨(List.replicate j 48 ++ DD).toArray⟩ := ⟨_, rfl⟩
                    have hTz : TB.size = j + DD.length := by rw [hTB, size_of, List.length_append, List.length_replicate]
                    have J2 := hide j2
                    have HTB := hide hTB
                    rw [← hTB]
                    clear j2 hrel hTB
                    by_cases hle : TB.size ≤ PL
                    · have hle' : (TB.size : Int) ≤ (PL : Int) := by omega
                      go_wp2
                      go_roundg (PL + 1 - (j + 1 + DD.length))
                      case measure => omega
                      case rel =>
                        refine ⟨j + 1, ?_, .inr (by omega), J2.out, rfl⟩
                        rw [HTB.out, show (⟨#[48]⟩ : ByteArray) = ⟨([48] : List UInt8).toArray⟩ from rfl, catB, List.replicate_succ]
                        rfl
                    · have hle' : ¬ (TB.size : Int) ≤ (PL : Int) := by omega
                      have hpad : Hid (TB = ⟨(padTo PL DD).toArray⟩) := by
                        show _ = _
                        rw [HTB.out, padTo]
                        have : j = PL + 1 - DD.length := by omega
                        rw [this]
                      have GR := hide J2.out
                      have hTb : TB.size ≤ 500000000 := by omega
                      clear J2 HTB j1 j3 hTz
                      go_upto_if 120 with fail
                      go_cut [19] (fun s19 wx => Hid (s19 = .string ⟨(decT n d PL).toArray⟩ ∧ wC.grownBy wx none))
                      case first =>
                        by_cases hP : 0 < PL
                        · have hP' : (0 : Int) < (PL : Int) := by omega
                          obtain ⟨mm, hmm⟩ : ∃ x, x = TB.size - PL := ⟨_, rfl⟩
                          have hmm2 : (TB.size : Int) - (PL : Int) = (mm : Int) := by omega
                          have hmm3 : mm ≤ TB.size := by omega
                          have hval : Hid (TB.extract 0 mm ++ ⟨#[46]⟩ ++ TB.extract mm TB.size = ⟨(decT n d PL).toArray⟩) := by
                            show _ = _
                            have hl : mm = (padTo PL DD).length - PL := by
                              rw [hmm, hpad.out, size_of]
                            rw [hpad.out, pointB, hl, HDD.out, HNN.out, decT_of n d PL hd0 HZ0.out (by omega)]
                          have hx1 : (TB.extract 0 mm).size = mm := by rw [ByteArray.size_extract]; omega
                          have hx2 : (TB.extract mm TB.size).size = TB.size - mm := by rw [ByteArray.size_extract]; omega
                          have hx3 : (TB.extract 0 mm ++ ⟨#[46]⟩).size = mm + 1 := by rw [ByteArray.size_append, hx1]; rfl
                          have hq : TB.size - PL = mm := hmm.symm
                          clear hmm
                          go_wp2
                          go_quiet (fail)
                          go_wp2_with fail
                          go_meet
                          exact ⟨by first | (rw [← hval.out]; done) | (rw [← hval.out, hq]; done) | (rw [← hval.out]; simp only [hq]), by first | exact gr_none GR.out (gr_dn2 _) | exact gr_none GR.out gr_drew1 | exact GR.out⟩
                        · have hP' : ¬ (0 : Int) < (PL : Int) := by omega
                          have hP0 : PL = 0 := by omega
                          have hval : Hid (TB = ⟨(decT n d PL).toArray⟩) := by
                            show _ = _
                            have hz := HZ0.out
                            rw [hpad.out, HDD.out, HNN.out, hP0]
                            rw [hP0, Nat.pow_zero, Nat.mul_one, Nat.mod_mod] at hz
                            rw [decT_whole n d hd0 hz]
                          clear hP hP0
                          go_wp2_with fail
                          go_meet
                          exact ⟨by rw [← hval.out], GR.out⟩
                      case rest =>
                        obtain ⟨rfl, gL⟩ := hcut.out
                        have GL := hide (gr_none GC.out gL)
                        obtain ⟨DT, hDT⟩ : ∃ t : ByteArray, t = ⟨(decT n d PL).toArray⟩ := ⟨_, rfl⟩
                        have hDz : DT.size = (decT n d PL).length := by rw [hDT, size_of]
                        rw [← hDT]
                        have HDT := hide hDT
                        obtain ⟨PX, hPX⟩ : ∃ t : ByteArray, t = ⟨(ptx i).toArray⟩ := ⟨_, rfl⟩
                        have hPXz : PX.size ≤ 2 := by rw [hPX, size_of]; exact ptx_len i hi10
                        rw [← hPX]
                        have HPX := hide hPX
                        have hSGz : SG.size ≤ 1 := by rw [HSG.out, size_of]; split <;> simp
                        clear hcut gL hDT hPX
                        by_cases hl : DT.size ≤ 4000
                        · have hl' : ¬ (4000 : Int) < (DT.size : Int) := by omega
                          have HP : Hid (printR q u.data.toList = ((if q < 0 then [45] else []) ++ decT n d PL ++ (ptx i ++ u.data.toList), 0)) := by
                            show _ = _
                            rw [HPE2.out, if_pos (by omega)]
                          have hcat : Hid (SG ++ DT ++ PX ++ u = ⟨((if q < 0 then [45] else []) ++ decT n d PL ++ (ptx i ++ u.data.toList)).toArray⟩) := by
                            show _ = _
                            rw [HSG.out, HDT.out, HPX.out, catB, catB]
                            conv => lhs; rhs; rw [show u = ⟨u.data.toList.toArray⟩ from rfl]
                            rw [catB, List.append_assoc]
                          clear hl
                          go_wp2
                          refine bodyPost_ret (v := .tuple #[.string (SG ++ DT ++ PX ++ u), .int .i64 0]) (by simp [results, Tryz.results9, go_sem]) rfl ?_
                          rw [HP.out, priV, hcat.out]
                          exact ⟨rfl, GL.out⟩
                        · have hl' : (4000 : Int) < (DT.size : Int) := by omega
                          have HP : Hid (printR q u.data.toList = ([], 6)) := by
                            show _ = _
                            rw [HPE2.out, if_neg (by omega)]
                          clear hl
                          go_wp2
                          refine bodyPost_ret (v := priV ([], 6)) (by simp [results, Tryz.results9, go_sem, priV]) rfl ?_
                          rw [HP.out]
                          exact ⟨rfl, GL.out⟩
                · have e1 : (ord g 1 != 0) = true := by
                    rw [bne_iff_ne]
                    rcases Nat.lt_or_gt_of_ne hg1 with h | h
                    · rw [ord_lt h]; decide
                    · rw [ord_gt h]; decide
                  have HP : Hid (printR q u.data.toList = ([], 6)) := by
                    show _ = _
                    refine print_never q u.data.toList HU.out d (2 ^ ka * 5 ^ kb) g ?_ ?_ hg2.out HG5.out hg1
                    · rw [HD.out, HR.out, HPE.out, HI.out, HA.out]
                    · rw [Nat.mul_assoc, ← KB.out]; exact KA.out
                  clear hg1
                  go_wp2
                  refine bodyPost_ret (v := priV ([], 6)) (by simp [results, Tryz.results9, go_sem, priV]) rfl ?_
                  rw [HP.out]
                  exact ⟨rfl, gr_none GC.out GP.out⟩
end Go.Proofs.YtgdiepfknfnmjaaGreatDoor
