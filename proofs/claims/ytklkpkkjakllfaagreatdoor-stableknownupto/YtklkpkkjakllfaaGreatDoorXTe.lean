/- stable: Routh. -/
import Derived.Test.YtklkpkkjakllfaaGreatDoorXTd
import Derived.Test.YtklkpkkjakllfaaGreatDoorXTBelow
import Derived.Test.YtklkpkkjakllfaaGreatDoorXTCount
set_option linter.unusedVariables false
set_option linter.unusedSimpArgs false
set_option maxHeartbeats 8000000
set_option maxRecDepth 10000
namespace Go.Proofs.YtklkpkkjakllfaaGreatDoor
open Go.RowKit
def fstR (p : Nat → Rat) (n k : Nat) : Rat := rowK (evP p n) (evP p (n - 1)) k 0
def RouE (w : World) (ls : List ByteArray) (e : Ending) (w' : World) : Prop :=
  w.grownBy w' none ∧
  ((13 < ls.length ∧ e = .returned (.tuple #[.slice none 0 0, .int .i64 2])) ∨ (ls.length ≤ 13 ∧ PL (polyQ ls) 0 ∧ e = .returned (.tuple #[.slice none 0 0, .int .i64 9])) ∨
   (ls.length ≤ 13 ∧ ∃ N, N ≤ 12 ∧ PL (polyQ ls) (N + 1) ∧
     (((∃ i, 1 ≤ i ∧ i ≤ N ∧ fstR (polyQ ls) (N + 1) i = 0) ∧ e = .returned (.tuple #[.slice none 0 0, .int .i64 7])) ∨
      ((∀ i, 1 ≤ i → i ≤ N → fstR (polyQ ls) (N + 1) i ≠ 0) ∧ (∀ i, i ≤ N → FitW 100000000 (fstR (polyQ ls) (N + 1) i)) ∧ ∃ v, e = .returned (.tuple #[v, .int .i64 0]) ∧ RowG sv w' v (textsL (fstR (polyQ ls) (N + 1)) (N + 1))))))
def RouR (W : World) (p : Nat → Rat) (N L : Nat) (v6 v7 v8 v35 : Value) (wr : World) : Prop :=
  ∃ k : Nat, k ≤ N ∧ v35 = .int .i64 k ∧ Rw wr v6 ((N - k) / 2 + 1) (rowK (evP p (N + 1)) (evP p N) k) L ∧ Rw wr v7 ((N + 1 - k) / 2) (rowK (evP p (N + 1)) (evP p N) (k + 1)) L ∧
    OwnT wr W.heap.size v8 (textsL (fstR p (N + 1)) (k + 1)) ∧ (∀ i, 1 ≤ i → i ≤ k → fstR p (N + 1) i ≠ 0) ∧ W.grownBy wr none
theorem routh_at (v : Value) (ls : List ByteArray) (S : Nat) (ws : Nat → Nat) (w : World) (hl : RowG sv w v ls) (hml : MLen w) (ht : Tab10 w) (hs : ls.length ≤ 13 → ∀ i (h : i < ls.length), (ls[i]).size ≤ 600000000 ∧ (ls[i]).size + 1 ≤ 100000000)
    (hws : ls.length ≤ 13 → ∀ i, FitW (ws i) (polyQ ls i)) (hS1 : ls.length ≤ 13 → ∀ n, n ≤ ls.length → sumW ws n + 1 ≤ S ∧ ∀ i, i < n → ws i + sumW ws n + 1 ≤ S) (hS : S ≤ 262200) :
    Calls Tryz.prog 15 #[v] w fun e w' => RouE w ls e w' := by
  have HL := hide hl
  have HS := hide hs
  have HM := hide hml
  have HT := hide ht
  have HW := hide hws
  have HS1 := hide hS1
  obtain ⟨ao, cap, rfl, hc, hm, _⟩ := hl
  clear hs hml ht hws hS1
  obtain ⟨L, hLL⟩ : ∃ L, L = 100000000 := ⟨_, rfl⟩
  have HLL := hide hLL
  have hL : L ≤ 1000000000000 := by omega
  have hLq : L ≤ 100000000000 := by omega
  have hF13 : fibS S 13 ≤ L := by rw [hLL]; exact fib_13 S hS
  have HF13 := hide hF13
  clear hLL hF13
  go_enter Tryz.func15, Tryz.ntmps15
  go_wp2_with fail
  refine (read_at _ ls L w HL.out (fun h i hi => by rw [HLL.out]; exact HS.out h i hi) HM.out).mono ?_
  rintro e w1 ⟨g1, hcase⟩
  have G1 := hide g1
  clear g1
  rcases hcase with ⟨hbig, rfl⟩ | ⟨hsm, hz, rfl⟩ | ⟨hsm, v1, n, hn0, hn13, hp, hr, rfl⟩
  · go_wp2
    refine bodyPost_ret (v := .tuple #[.slice none 0 0, .int .i64 2]) (by simp [results, Tryz.results15, go_sem]) rfl ?_
    exact ⟨G1.out, .inl ⟨hbig, rfl⟩⟩
  · have HZ := hide hz
    clear hz
    go_wp2
    refine bodyPost_ret (v := .tuple #[.slice none 0 0, .int .i64 9]) (by simp [results, Tryz.results15, go_sem]) rfl ?_
    exact ⟨G1.out, .inr (.inl ⟨hsm, HZ.out, rfl⟩)⟩
  · have HP := hide hp
    have HR := hide hr
    have HSM := hide hsm
    obtain ⟨N, rfl⟩ : ∃ N, n = N + 1 := ⟨n - 1, by omega⟩
    obtain ⟨p, hpp⟩ : ∃ p, p = polyQ ls := ⟨_, rfl⟩
    have HPP := hide hpp
    have hnl := PL_len hp
    have REP : Hid (Rep (evP p (N + 1)) S ∧ Rep (evP p N) S) := by
      have h := rep_poly (n := N + 1) (S := S) hp.1 (HW.out hsm) (HS1.out hsm (N + 1) hnl).2 (HS1.out hsm (N + 1) hnl).1
      rw [hpp]
      exact ⟨rep_ev h, rep_ev h⟩
    rw [← hpp] at HP HR
    obtain ⟨o1, c1, rfl, _, hm1, _⟩ := hr
    unfold maxLen at hm1
    clear hp hsm HL HS HM HW HS1 hpp hnl
    go_wp2_with fail
    refine (second_at' _ (N + 1) (N + 1) _ p L w1 (by omega) HR.out (by omega) (by omega)).mono ?_
    rintro e w2 ⟨v2, rfl, q1, q2⟩
    obtain ⟨la, hla⟩ : ∃ la, la = (N + 1 + 1) / 2 := ⟨_, rfl⟩
    rw [← hla] at q1
    have HLA1 := hide hla
    clear hla
    have A0 := hide q1
    have G2 := hide q2
    obtain ⟨o2, c2, rfl, _, hm2, _⟩ := q1
    unfold maxLen at hm2
    clear q2
    go_wp2_with fail
    refine (second_at' _ (N + 1) N _ p L w2 (by omega) (HR.out.keep0 G2.out) (by omega) (by omega)).mono ?_
    rintro e w3 ⟨v3, rfl, q1, q2⟩
    obtain ⟨lb, hlb⟩ : ∃ lb, lb = (N + 1) / 2 := ⟨_, rfl⟩
    rw [← hlb] at q1
    have HLB1 := hide hlb
    clear hlb
    have B0 := hide q1
    have A1 := hide (A0.out.keep0 q2)
    have G3 := hide (gr_none G1.out (gr_none G2.out q2))
    obtain ⟨o3, c3, rfl, _, hm3, _⟩ := q1
    unfold maxLen at hm3
    clear q2 A0 G2
    obtain ⟨ao', c', e', _, _, h3⟩ := A1.out
    simp only [Value.slice.injEq, true_and] at e'
    obtain ⟨ex1, ex2⟩ := e'
    have hlaN := HLA1.out
    have hla0 : 0 < la := by omega
    clear hlaN
    obtain ⟨ga, ex3, hra⟩ := h3 hla0
    have hgal := hra.lt
    subst ex2 ex1 ex3
    obtain ⟨uo, ul, uc, vo, vl, vc, d0, d1, d2, d3, _⟩ := hra.at 0 (by omega)
    simp only [Nat.zero_mul, Nat.zero_add] at d0 d1 d2
    have D3 := hide d3
    have hla1 : (0 : Int) < ((la : Nat) : Int) := by omega
    clear d3 hra h3
    have HLA : Hid (la = N / 2 + 1 ∧ lb = (N + 1) / 2) := by have h1 := HLA1.out; have h2 := HLB1.out; show _ ∧ _; omega
    have T3 := hide (HT.out.keep0 G3.out)
    obtain ⟨q0, hq0⟩ : ∃ q0, q0 = evP p (N + 1) 0 := ⟨_, rfl⟩
    have HQ0 := hide hq0
    rw [← hq0] at d0 D3
    clear hq0
    go_wp2_with fail
    refine (fQ_at _ q0 L w3 D3.out hLq T3.out).mono ?_
    rintro e w4 ⟨rfl, g4⟩
    have G4 := hide g4
    clear g4 d0 d1 d2
    obtain ⟨s4, hs4⟩ : ∃ s4, s4 = (⟨(qtext q0).toArray⟩ : ByteArray) := ⟨_, rfl⟩
    rw [← hs4]
    have HS4 := hide hs4
    clear hs4
    go_wp2
    obtain ⟨W5, hW5⟩ : ∃ W5, W5 = w4.alloc (Obj.cells #[sv s4] 24) := ⟨_, rfl⟩
    have T5 : Hid (OwnT W5 w4.heap.size (.slice (some ⟨w4.heap.size, 0, none⟩) 1 1) (textsL (fstR p (N + 1)) 1)) := by
      have e1 : textsL (fstR p (N + 1)) 1 = [s4] := by
        rw [HS4.out, HQ0.out]
        rfl
      rw [e1, hW5]
      exact ownT_one (Nat.le_refl _)
    have G5 : Hid (w4.grownBy W5 none) := by rw [hW5]; exact gr_alloc (gr_refl _ _) _
    rw [← hW5]
    clear hW5
    go_loopw [6, 7, 8, 35] (fun v6 v7 v8 v35 wr => Hid (RouR w4 p N L v6 v7 v8 v35 wr)) (fun _ _ _ v35 _ => N - (intOf v35).toNat)
    case atStart =>
      obtain ⟨e1, e2⟩ := HLA.out
      refine ⟨0, by omega, rfl, ?_, ?_, T5.out, fun i h1 h2 => by omega, G5.out⟩
      · show Rw _ _ (N / 2 + 1) _ _
        rw [← e1]
        exact A1.out.keep0 (gr_none G4.out G5.out)
      · show Rw _ _ ((N + 1) / 2) _ _
        rw [← e2]
        exact B0.out.keep0 (gr_none G4.out G5.out)
    case round =>
      obtain ⟨k, hk, rfl, r1, r2, r3, r4, r5⟩ := hrel.out
      obtain ⟨lk, hlk⟩ : ∃ lk, lk = (N - k) / 2 + 1 := ⟨_, rfl⟩
      obtain ⟨lj, hlj⟩ : ∃ lj, lj = (N + 1 - k) / 2 := ⟨_, rfl⟩
      rw [← hlk] at r1
      rw [← hlj] at r2
      have R1 := hide r1
      have R2 := hide r2
      have R3 := hide r3
      have R4 := hide r4
      have R5 := hide r5
      obtain ⟨x1, xc1, rfl, hxc1, hxm1, hb1⟩ := r1
      obtain ⟨x2, xc2, rfl, hxc2, hxm2, hb2⟩ := r2
      obtain ⟨x3, xc3, rfl⟩ := r3.1.shape
      unfold maxLen at hxm1 hxm2
      have HLK : Hid (lk = (N - k) / 2 + 1 ∧ lj = (N + 1 - k) / 2) := ⟨hlk, hlj⟩
      by_cases hlt : k < N
      · have hlj0 : 0 < lj := by omega
        have hlj1 : (0 : Int) < ((lj : Nat) : Int) := by omega
        have hlk0 : 0 < lk := by omega
        have hlk3 : lk ≤ 3000 := by omega
        have hjk : lj ≤ lk := by omega
        obtain ⟨gk, ex1, fk⟩ := hb1 hlk0
        obtain ⟨gj, ex2, fj⟩ := hb2 hlj0
        subst ex1 ex2
        obtain ⟨uo, ul, uc, vo, vl, vc, d0, d1, d2, d3, _⟩ := fj.at 0 hlj0
        simp only [Nat.zero_mul, Nat.zero_add] at d0 d1 d2
        obtain ⟨q, hq⟩ : ∃ q, q = rowK (evP p (N + 1)) (evP p N) (k + 1) 0 := ⟨_, rfl⟩
        rw [← hq] at d0 d3
        have HQ : Hid (q = rowK (evP p (N + 1)) (evP p N) (k + 1) 0) := hq
        have D4 := hide d3
        have FK := hide fk
        have FJ := hide fj
        have hgj := fj.lt
        clear r3 r4 r5 hrel hlk hlj d3 fk fj hb1 hb2 hq A1 B0 T5 D3 T3
        go_wp2_with fail
        refine (qIsZero_at _ q L wr D4.out).mono ?_
        rintro e w6 ⟨rfl, g6⟩
        have G6 := hide g6
        clear g6
        by_cases hz : q = 0
        · have hd : Hid (decide (q = 0) = true) := decide_eq_true hz
          have HZ : Hid (fstR p (N + 1) (k + 1) = 0) := by rw [← hz]; exact HQ.out.symm
          clear hz
          rw [hd.out]
          go_wp2
          refine bodyPost_ret (v := .tuple #[.slice none 0 0, .int .i64 7]) (by simp [results, Tryz.results15, go_sem]) rfl ?_
          have hpp := HPP.out
          subst hpp
          exact ⟨gr_none G3.out (gr_none G4.out (gr_none R5.out G6.out)), .inr (.inr ⟨HSM.out, N, by omega, HP.out, .inl ⟨⟨k + 1, by omega, by omega, HZ.out⟩, rfl⟩⟩)⟩
        · have hd : Hid (decide (q = 0) = false) := decide_eq_false hz
          have HZ : Hid (q ≠ 0) := hz
          clear hz
          rw [hd.out]
          have e0 := G6.out.cell d0 (by simp)
          have e1 := G6.out.cell d1 (by simp)
          have e2 := G6.out.cell d2 (by simp)
          clear d0 d1 d2
          go_wp2_with fail
          refine (fQ_at _ q L w6 (D4.out.keep0 G6.out) hLq (HT.out.keep0 (gr_none G3.out (gr_none G4.out (gr_none R5.out G6.out))))).mono ?_
          rintro e w7 ⟨rfl, g7⟩
          have G7 := hide (gr_none G6.out g7)
          clear g7 e0 e1 e2
          have hsz : w4.heap.size ≤ w7.heap.size := Nat.le_trans R5.out.size G7.out.size
          have hlen : Hid ((textsL (fstR p (N + 1)) (k + 1)).length = k + 1) := textsL_length _ _
          have GA : Hid (wr.grownBy (w7.alloc (Obj.cells #[sv ⟨(qtext q).toArray⟩] 24)) none) := gr_alloc G7.out _
          go_wp2_with (at_builtin; refine wpList_append_t _ rfl _ _ 22 rfl w4.heap.size Tryz.underlying22 Tryz.infoQ _ (textsL (fstR p (N + 1)) (k + 1)) rfl (R3.out.keep0 GA.out) w7.heap.size ⟨(qtext q).toArray⟩ rfl (by go_simp) (by rw [hlen.out]; omega) (by simp; omega) ?_)
          intro ao8 cap8 w8 ho hg hwk
          have HO : Hid (OwnT w8 w4.heap.size (.slice ao8 ((textsL (fstR p (N + 1)) (k + 1)).length + 1) cap8) (textsL (fstR p (N + 1)) (k + 1 + 1))) := by
            rw [textsL_succ _ (k + 1)]
            have : fstR p (N + 1) (k + 1) = q := HQ.out.symm
            rw [this]
            exact ho
          have hl1 : 0 < (textsL (fstR p (N + 1)) (k + 1)).length := by rw [hlen.out]; omega
          have FK8 := hide ((FK.out.keep0 GA.out).keep hg hwk ((R3.out.keep0 GA.out).apart hl1 (FK.out.keep0 GA.out) hlk0))
          have FJ8 := hide ((FJ.out.keep0 GA.out).keep hg hwk ((R3.out.keep0 GA.out).apart hl1 (FJ.out.keep0 GA.out) hlj0))
          have G8 : Hid (w4.grownBy w8 none) := by
            refine gr_trans (r := none) (gr_none R5.out GA.out) hg (fun _ _ e => e) (fun b hb e => ?_)
            have := (R3.out.1.fresh b e.symm).1
            omega
          clear ho hg hwk hl1
          obtain ⟨B1, B2⟩ := rep_rows REP.out.1 REP.out.2 k (fun i h1 h2 => R4.out i h1 h2)
          obtain ⟨b1, b2, b3⟩ := B1.below B2 (by rw [← HQ.out]; exact HZ.out)
          have hfb : fibS S k + fibS S (k + 1) + 1 ≤ L := Nat.le_trans (fib_le (S := S) (show k + 2 ≤ 13 by omega)) HF13.out
          have FF : Hid (FitW L (rowK (evP p (N + 1)) (evP p N) k 0 / rowK (evP p (N + 1)) (evP p N) (k + 1) 0) ∧ (∀ j, FitW L (rowK (evP p (N + 1)) (evP p N) k 0 / rowK (evP p (N + 1)) (evP p N) (k + 1) 0 * rowK (evP p (N + 1)) (evP p N) (k + 1) j)) ∧ ∀ j, FitW L (rowN (rowK (evP p (N + 1)) (evP p N) k) (rowK (evP p (N + 1)) (evP p N) (k + 1)) j)) :=
            ⟨fit_mono b1 (by omega), fun j => fit_mono (b2 j) (by omega), fun j => fit_mono (b3.fit j) hfb⟩
          clear B1 B2 b1 b2 b3 hfb
          go_wp2_with fail
          refine (below_at gk lk xc1 gj lj xc2 (rowK (evP p (N + 1)) (evP p N) k) (rowK (evP p (N + 1)) (evP p N) (k + 1)) L w8 FK8.out FJ8.out hlk0 hlj0 hjk hlk3 hxc1 (by unfold maxLen; omega) hxc2 (by unfold maxLen; omega) (by rw [← HQ.out]; exact HZ.out)
            (fun j hj => rowK_zero (p := p) (n := N + 1) (k + 1) j (by have := HLK.out; omega)) hL FF.out.1 FF.out.2.1 FF.out.2.2).mono ?_
          rintro e w9 ⟨v9, rfl, k1, k2⟩
          have K1 := hide k1
          have G9 := hide (gr_none G8.out k2)
          have HO9 := hide (HO.out.keep0 k2)
          have FJ9 := hide (FJ8.out.keep0 k2)
          obtain ⟨o9, c9, rfl, _, _, _⟩ := k1
          clear k2
          go_wp2
          go_roundw
          case rel =>
            obtain ⟨z1, z2⟩ := HLK.out
            refine ⟨k + 1, by omega, by go_num, ?_, ?_, HO9.out, fun i h1 h2 => ?_, G9.out⟩
            · rw [show (N - (k + 1)) / 2 + 1 = lj by omega]
              exact ⟨_, _, rfl, hxc2, by unfold maxLen; omega, fun _ => ⟨gj, rfl, FJ9.out⟩⟩
            · rw [show (N + 1 - (k + 1)) / 2 = lk - 1 by omega]
              exact K1.out
            · by_cases e : i = k + 1
              · rw [e]
                intro h
                exact HZ.out (HQ.out.trans h)
              · exact R4.out i h1 (by omega)
          case measure => simp [intOf]; omega
      · obtain rfl : k = N := by omega
        have hlt1 : ¬ ((k : Nat) : Int) < ((k : Nat) : Int) := by omega
        clear r3 r4 r5 hrel hlk hlj hb1 hb2 A1 B0 T5 D3 T3
        go_wp2
        refine bodyPost_ret (v := .tuple #[.slice x3 (textsL (fstR p (k + 1)) (k + 1)).length xc3, .int .i64 0]) (by simp [results, Tryz.results15, go_sem]) rfl ?_
        have hpp := HPP.out
        subst hpp
        refine ⟨gr_none G3.out (gr_none G4.out R5.out), .inr (.inr ⟨HSM.out, k, by omega, HP.out, .inr ⟨R4.out, fun i hi => ?_, _, rfl, R3.out.1.row⟩⟩)⟩
        have h9 := (rep_rows REP.out.1 REP.out.2 i (fun j h1 h2 => R4.out j h1 (by omega))).1
        have h10 := fit_mono (h9.fit 0) (Nat.le_trans (fib_le (S := S) (show i ≤ 13 by omega)) HF13.out)
        rw [HLL.out] at h10
        exact h10
theorem row1_ev (p : Nat → Rat) (n : Nat) : row1 p n = evP p (n - 1) := by
  funext j
  unfold row1 evP
  by_cases h : 2 * j + 1 < n
  · rw [if_pos h, if_pos (by omega), show n - 1 - 1 - 2 * j = n - 2 - 2 * j by omega]
  · rw [if_neg h, if_neg (by omega)]
theorem RRt_one {s : Nat → Rat} {r : Int} (h : RRt s 1 r) : r = 0 := by
  rcases h.parted with ⟨_, h⟩ | ⟨h, _⟩
  · exact h
  · omega
theorem cnt_regular {p : Nat → Rat} {N : Nat} {a b c : Int} (hp : PL p (N + 1)) (hz : ∀ i, 1 ≤ i → i ≤ N → fstR p (N + 1) i ≠ 0) (h : CntV p (N + 1) a b c) :
    a = ((N : Int) + upU (evP p (N + 1)) (evP p N) N).tdiv 2 ∧ b = 0 ∧ c = ((N : Int) - upU (evP p (N + 1)) (evP p N) N).tdiv 2 := by
  obtain ⟨m, u, r, s, d, k, l, h1, hk, hl, hj, hr, rfl, rfl, rfl⟩ := h
  have h00 : fstR p (N + 1) 0 ≠ 0 := by
    show evP p (N + 1) 0 ≠ 0
    unfold evP
    rw [if_pos (by omega)]
    exact hp.2 (by omega)
  have key : u = upU (evP p (N + 1)) (evP p N) N ∧ d = 1 := by
    rcases Nat.eq_zero_or_pos N with h0 | h0
    · subst h0
      have hm : m = 0 := by
        have := half1_len (by omega) h1
        omega
      subst hm
      rcases hj.parted with ⟨_, h5, _, h6⟩ | ⟨h5, _⟩
      · exact ⟨h5, h6⟩
      · omega
    · obtain ⟨M, rfl⟩ : ∃ M, N = M + 1 := ⟨N - 1, by omega⟩
      have e0 : halfP p (M + 1 + 1) 0 = rowP (evP p (M + 1 + 1)) (M + 1) := half0 p (M + 1 + 1) (by omega)
      have e1 : halfP p (M + 1 + 1) 1 = rowP (evP p (M + 1)) M := by
        rw [half1 p (M + 1 + 1) (by omega), row1_ev]
        rfl
      have h11 : evP p (M + 1) 0 ≠ 0 := hz 1 (by omega) (by omega)
      have hm : m = M + 1 := by
        refine PL_uniq h1 ?_
        rw [e1]
        have := PL_rowP (d := M) h11 1 (by decide)
        simpa [Rat.one_mul] using this
      subst hm
      rw [e0, e1] at hj
      exact jmp_rows M (evP p (M + 1 + 1)) (evP p (M + 1)) k l u s d hk hl (fun j hj => by unfold evP; rw [if_neg (by omega)]) (fun j hj => by unfold evP; rw [if_neg (by omega)])
        (fun n hn => by
          rcases Nat.eq_zero_or_pos n with h2 | h2
          · subst h2; exact h00
          · exact hz n h2 hn) _ _ (fun _ => rfl) (fun _ => rfl) hj
  obtain ⟨k1, k2⟩ := key
  subst k2
  have hr0 := RRt_one hr
  subst hr0
  rw [k1]
  refine ⟨?_, rfl, ?_⟩
  · congr 1
    omega
  · congr 1
    omega
def chgN (F : Nat → Rat) : Nat → Nat
  | 0 => 0
  | n + 1 => chgN F n + (if (F (n + 1)).num.sign = (F n).num.sign then 0 else 1)
theorem sign_two {q : Rat} (h : q ≠ 0) : q.num.sign = 1 ∨ q.num.sign = -1 := by
  rcases Int.lt_trichotomy q.num 0 with h1 | h1 | h1
  · exact .inr (Int.sign_eq_neg_one_of_neg h1)
  · exact absurd (Rat.num_eq_zero.1 h1) h
  · exact .inl (Int.sign_eq_one_of_pos h1)
theorem upS_chg (a b : Nat → Rat) : ∀ N, (∀ i, i ≤ N → rowK a b i 0 ≠ 0) → upU a b N = (N : Int) - 2 * (chgN (fun i => rowK a b i 0) N : Nat)
  | 0, _ => rfl
  | N + 1, h => by
    have ih := upS_chg a b N (fun i hi => h i (by omega))
    show upU a b N + sgn1 (rowK a b N 0) * sgn1 (rowK a b (N + 1) 0) = _
    have ec : chgN (fun i => rowK a b i 0) (N + 1) = chgN (fun i => rowK a b i 0) N + (if (rowK a b (N + 1) 0).num.sign = (rowK a b N 0).num.sign then 0 else 1) := rfl
    rw [ih, ec]
    unfold sgn1
    generalize chgN (fun i => rowK a b i 0) N = C
    have h1 := sign_two (h N (by omega))
    have h2 := sign_two (h (N + 1) (by omega))
    rcases h1 with h1 | h1 <;> rcases h2 with h2 | h2 <;> rw [h1, h2]
    · rw [if_pos rfl]; omega
    · rw [if_neg (by decide)]; omega
    · rw [if_neg (by decide)]; omega
    · rw [if_pos rfl]; omega
theorem cnt_routh {p : Nat → Rat} {N : Nat} {a b c : Int} (hp : PL p (N + 1)) (hz : ∀ i, 1 ≤ i → i ≤ N → fstR p (N + 1) i ≠ 0) (h : CntV p (N + 1) a b c) : b = 0 ∧ c = (chgN (fstR p (N + 1)) N : Nat) ∧ a = (N : Int) - (chgN (fstR p (N + 1)) N : Nat) := by
  obtain ⟨h1, h2, h3⟩ := cnt_regular hp hz h
  have h00 : fstR p (N + 1) 0 ≠ 0 := by
    show evP p (N + 1) 0 ≠ 0
    unfold evP
    rw [if_pos (by omega)]
    exact hp.2 (by omega)
  have hu := upS_chg (evP p (N + 1)) (evP p N) N (fun i hi => by
    rcases Nat.eq_zero_or_pos i with h4 | h4
    · subst h4; exact h00
    · exact hz i h4 hi)
  have e : (fun i => rowK (evP p (N + 1)) (evP p N) i 0) = fstR p (N + 1) := rfl
  rw [e] at hu
  rw [hu] at h1 h3
  have hb : ∀ n, chgN (fstR p (N + 1)) n ≤ n := by
    intro n
    induction n with
    | zero => exact Nat.le_refl _
    | succ n ih =>
      unfold chgN
      split <;> omega
  have hbN := hb N
  refine ⟨h2, ?_, ?_⟩
  · rw [h3, show (N : Int) - ((N : Int) - 2 * (chgN (fstR p (N + 1)) N : Nat)) = 2 * ((chgN (fstR p (N + 1)) N : Nat) : Int) by omega, Int.mul_tdiv_cancel_left _ (by decide)]
  · rw [h1, show (N : Int) + ((N : Int) - 2 * (chgN (fstR p (N + 1)) N : Nat)) = 2 * ((N : Int) - (chgN (fstR p (N + 1)) N : Nat)) by omega, Int.mul_tdiv_cancel_left _ (by decide)]
def ls1 : List ByteArray := [⟨#[49]⟩, ⟨#[48]⟩, ⟨#[49]⟩]
def ls2 : List ByteArray := [⟨#[56]⟩, ⟨#[50]⟩, ⟨#[49]⟩, ⟨#[49]⟩]
theorem p1_0 : polyQ ls1 0 = 1 := by decide +kernel
theorem p1_1 : polyQ ls1 1 = 0 := by decide +kernel
theorem p1_2 : polyQ ls1 2 = 1 := by decide +kernel
theorem p2_3 : polyQ ls2 3 = 1 := by decide +kernel
theorem PL1 : PL (polyQ ls1) 3 := ⟨fun i hi => polyQ_out hi, fun _ => by rw [p1_2]; decide⟩
theorem PL2 : PL (polyQ ls2) 4 := ⟨fun i hi => polyQ_out hi, fun _ => by rw [p2_3]; decide⟩
theorem f2_0 : fstR (polyQ ls2) 4 0 = 1 := by decide +kernel
theorem f2_1 : fstR (polyQ ls2) 4 1 = 1 := by decide +kernel
theorem f2_2 : fstR (polyQ ls2) 4 2 = -6 := by decide +kernel
theorem f2_3 : fstR (polyQ ls2) 4 3 = 8 := by decide +kernel
theorem f2_ne : ∀ i, 1 ≤ i → i ≤ 3 → fstR (polyQ ls2) 4 i ≠ 0 := by
  intro i h1 h2
  have h : i = 1 ∨ i = 2 ∨ i = 3 := by omega
  rcases h with rfl | rfl | rfl
  · rw [f2_1]; decide
  · rw [f2_2]; decide
  · rw [f2_3]; decide
theorem cnt2 {a b c : Int} (h : CntV (polyQ ls2) 4 a b c) : a = 1 ∧ b = 0 ∧ c = 2 := by
  obtain ⟨h1, h2, h3⟩ := cnt_routh (N := 3) PL2 f2_ne h
  have e : chgN (fstR (polyQ ls2) 4) 3 = 2 := by
    simp only [chgN, f2_0, f2_1, f2_2, f2_3]
    decide +kernel
  have e' : chgN (fstR (polyQ ls2) (3 + 1)) 3 = 2 := e
  rw [e'] at h2 h3
  exact ⟨by rw [h3]; rfl, h1, by rw [h2]; rfl⟩
theorem cnt1 {a b c : Int} (h : CntV (polyQ ls1) 3 a b c) : a = 0 ∧ b = 2 ∧ c = 0 := by
  obtain ⟨m, u, r, s, d, k, l, h1, hk, hl, hj, hr, rfl, rfl, rfl⟩ := h
  have hm : m = 0 := by
    refine PL_uniq h1 ⟨fun i _ => ?_, fun h => by omega⟩
    unfold halfP
    by_cases hi : i < 3 ∧ (3 - 1 - i) % 2 = 1
    · have : i = 1 := by omega
      subst this
      rw [if_pos (by decide), if_neg (by decide), p1_1]
    · rw [if_neg hi]
  subst hm
  rcases hj.parted with ⟨_, rfl, rfl, rfl⟩ | ⟨h5, _⟩
  · have e0 : halfP (polyQ ls1) 3 0 = rowP (evP (polyQ ls1) 3) 2 := half0 _ 3 (by decide)
    rcases hr.parted with ⟨h, _⟩ | ⟨h2, u', s', d', c', k1, k2, hk1, hk2, hj', rfl, hr'⟩
    · omega
    · have a0 : evP (polyQ ls1) 3 0 = 1 := p1_2
      have a1 : evP (polyQ ls1) 3 1 = 1 := p1_0
      obtain ⟨g1, g2⟩ := jmp_rows 1 (evP (polyQ ls1) 3) (fun j => if j = 0 then 2 else 0) (k1 * k) (k2 * k) u' s' d' (Rat.mul_pos hk1 hk) (Rat.mul_pos hk2 hk) (fun j hj => by unfold evP; rw [if_neg (by omega)]) (fun j hj => if_neg (by omega))
        (fun n hn => by
          have h : n = 0 ∨ n = 1 ∨ n = 2 := by omega
          rcases h with rfl | rfl | rfl
          · show evP (polyQ ls1) 3 0 ≠ 0
            rw [a0]; decide
          · show (if (0 : Nat) = 0 then (2 : Rat) else 0) ≠ 0
            decide
          · show evP (polyQ ls1) 3 1 - evP (polyQ ls1) 3 0 / (if (0 : Nat) = 0 then (2 : Rat) else 0) * (if (0 + 1 : Nat) = 0 then (2 : Rat) else 0) ≠ 0
            rw [a0, a1]
            decide +kernel)
        _ _ (fun i => by show k1 * (k * halfP (polyQ ls1) 3 0 i) = k1 * k * rowP (evP (polyQ ls1) 3) (1 + 1) i; rw [e0, Rat.mul_assoc])
        (fun i => by
          show k2 * slopeP (fun i => k * halfP (polyQ ls1) 3 0 i) i = k2 * k * rowP (fun j => if j = 0 then 2 else 0) 1 i
          unfold slopeP
          rw [e0]
          show k2 * (k * rowP (evP (polyQ ls1) 3) 2 (i + 1) * ((i + 1 : Nat) : Rat)) = k2 * k * rowP (fun j => if j = 0 then 2 else 0) 1 i
          have h : i = 0 ∨ i = 1 ∨ 2 ≤ i := by omega
          rcases h with rfl | rfl | h
          · rw [rowP_odd (d := 2) (i := 0 + 1) (by decide), rowP_odd (d := 1) (i := 0) (by decide)]
            grind
          · rw [show (1 + 1 : Nat) = 2 from rfl, rowP_top, rowP_top, a0]
            have : ((2 : Nat) : Rat) = 2 := rfl
            rw [this, if_pos rfl]
            grind
          · rw [rowP_out (d := 2) (by omega), rowP_out (d := 1) (by omega)]
            grind) hj'
      subst g2
      have hc := RRt_one hr'
      subst hc
      have hu : u' = 2 := by
        rw [g1]
        show (0 : Int) + sgn1 (evP (polyQ ls1) 3 0) * sgn1 (if (0 : Nat) = 0 then (2 : Rat) else 0) + sgn1 (if (0 : Nat) = 0 then (2 : Rat) else 0) * sgn1 (evP (polyQ ls1) 3 1 - evP (polyQ ls1) 3 0 / (if (0 : Nat) = 0 then (2 : Rat) else 0) * (if (0 + 1 : Nat) = 0 then (2 : Rat) else 0)) = 2
        rw [a0, a1]
        decide +kernel
      subst hu
      exact ⟨by decide, by decide, by decide⟩
  · omega
theorem small_1 {i : Nat} (h : i < ls1.length) : (ls1[i]).size = 1 := by
  have h3 : i < 3 := h
  match i, h3 with
  | 0, _ => rfl
  | 1, _ => rfl
  | 2, _ => rfl
theorem small_2 {i : Nat} (h : i < ls2.length) : (ls2[i]).size = 1 := by
  have h3 : i < 4 := h
  match i, h3 with
  | 0, _ => rfl
  | 1, _ => rfl
  | 2, _ => rfl
  | 3, _ => rfl
theorem vB_small : vB (14 * 131074) 1 ≤ 1000000000000 := by decide +kernel
theorem count1_at (v : Value) (w : World) (hl : RowG sv w v ls1) (hml : MLen w) : Calls Tryz.prog 13 #[v] w fun e w' => e = .returned (.tuple #[.int .i64 0, .int .i64 2, .int .i64 0, .int .i64 0]) ∧ w.grownBy w' none := by
  refine (count_at v ls1 131074 1000000000000 w hl hml (fun _ i hi => by rw [small_1 hi]; decide) (by decide) (Nat.le_refl _) vB_small).mono ?_
  rintro e w' ⟨g, a, b, c, f, rfl, h⟩
  refine ⟨?_, g⟩
  rcases h with ⟨h, _⟩ | ⟨_, h, _⟩ | ⟨_, n, h1, h2, h3, h4, h5⟩
  · exact absurd h (by decide)
  · exact absurd (PL_uniq h PL1) (by decide)
  · have hn := PL_uniq h3 PL1
    subst hn
    obtain ⟨rfl, rfl, rfl⟩ := cnt1 h5
    rw [h4]
theorem count2_at (v : Value) (w : World) (hl : RowG sv w v ls2) (hml : MLen w) : Calls Tryz.prog 13 #[v] w fun e w' => e = .returned (.tuple #[.int .i64 1, .int .i64 0, .int .i64 2, .int .i64 0]) ∧ w.grownBy w' none := by
  refine (count_at v ls2 131074 1000000000000 w hl hml (fun _ i hi => by rw [small_2 hi]; decide) (by decide) (Nat.le_refl _) vB_small).mono ?_
  rintro e w' ⟨g, a, b, c, f, rfl, h⟩
  refine ⟨?_, g⟩
  rcases h with ⟨h, _⟩ | ⟨_, h, _⟩ | ⟨_, n, h1, h2, h3, h4, h5⟩
  · exact absurd h (by decide)
  · exact absurd (PL_uniq h PL2) (by decide)
  · have hn := PL_uniq h3 PL2
    subst hn
    obtain ⟨rfl, rfl, rfl⟩ := cnt2 h5
    rw [h4]
def ls3 : List ByteArray := [⟨#[49]⟩, ⟨#[49]⟩, ⟨#[45, 54]⟩, ⟨#[56]⟩]
theorem texts2 : textsL (fstR (polyQ ls2) 4) 4 = ls3 := by
  simp only [textsL, List.range, List.range.loop, List.map, f2_0, f2_1, f2_2, f2_3]
  decide +kernel
theorem sumW_const (c : Nat) : ∀ n, sumW (fun _ => c) n = n * c
  | 0 => by simp [sumW]
  | n + 1 => by
    show sumW (fun _ => c) n + c = (n + 1) * c
    rw [sumW_const c n, Nat.succ_mul]
theorem routh2_at (v : Value) (w : World) (hl : RowG sv w v ls2) (hml : MLen w) (ht : Tab10 w) : Calls Tryz.prog 15 #[v] w fun e w' => ∃ v', e = .returned (.tuple #[v', .int .i64 0]) ∧ RowG sv w' v' ls3 ∧ w.grownBy w' none := by
  refine (routh_at v ls2 262200 (fun _ => 2) w hl hml ht (fun _ i hi => by rw [small_2 hi]; decide) (fun _ i => polyQ_fit (by decide) (fun i hi => by rw [small_2 hi]; decide) i) ?_ (Nat.le_refl _)).mono ?_
  · intro _ n hn
    have hn4 : n ≤ 4 := hn
    rw [sumW_const]
    exact ⟨by omega, fun i hi => by omega⟩
  · rintro e w' ⟨g, h⟩
    rcases h with ⟨h, _⟩ | ⟨_, h, _⟩ | ⟨_, N, h1, h2, h3⟩
    · exact absurd h (by decide)
    · exact absurd (PL_uniq h PL2) (by decide)
    · have hn : N = 3 := by have := PL_uniq h2 PL2; omega
      subst hn
      rcases h3 with ⟨⟨i, i1, i2, i3⟩, _⟩ | ⟨_, _, v', rfl, h4⟩
      · exact absurd i3 (f2_ne i i1 i2)
      · refine ⟨v', rfl, ?_, g⟩
        have e1 : textsL (fstR (polyQ ls2) (3 + 1)) (3 + 1) = ls3 := texts2
        rw [← e1]
        exact h4
end Go.Proofs.YtklkpkkjakllfaaGreatDoor
