/- voltaicref: Of. -/
import Derived.Test.YtgdiepfknfnmjaaGreatDoorROf
namespace Go.Proofs.YtgdiepfknfnmjaaGreatDoor
open Go.RowKit
set_option linter.unusedVariables false

set_option maxHeartbeats 4000000 in
set_option maxRecDepth 10000 in
theorem refOf_false (s : ByteArray) (m : Int) (w : World) (hs : s.size ≤ 100000000) (hml : w.cell? ⟨5, 0, none⟩ = some (.int .i64 m)) (hneg : Lib.hasPrefix s.data.toList [45] = false) :
    Calls Tryz.prog 11 #[.string s] w fun e w' => RefE w s.data.toList (3 * s.size + 8) e w' := by
  have HML := hide hml
  have HNEG := hide hneg
  have HT : Hid (Lib.trimPrefix s.data.toList [45] = s.data.toList) := by
    show _ = _
    unfold Lib.trimPrefix
    rw [if_neg (by rw [hneg]; simp)]
  clear hml hneg
  go_enter Tryz.func11, Tryz.ntmps11
  go_wp2_with fail
  refine (Tryz.strings_HasPrefix s ⟨#[45]⟩ _).mono ?_
  rintro e w0 ⟨rfl, rfl⟩
  rw [show Lib.hasPrefix s.data.toList (⟨#[45]⟩ : ByteArray).data.toList = false from HNEG.out]
  go_wp2_with fail
  refine (split_at s m w0 (by omega) HML.out).mono ?_
  intro e w1 hE
  obtain ⟨g1, A, hA1, q0, hw⟩ := hE
  have hAz : A.size ≤ s.size := by
    have := (cut_le (s).data.toList [47]).1
    rw [← hA1, ← Lib.size_eq, ← Lib.size_eq] at this
    omega
  have G1 := hide g1
  have HA1 := hide hA1
  clear g1 hA1
  generalize w0.heap.size = h at *
  have hTs : s.size ≤ s.size := Nat.le_refl _
  have hls : w0.heap.size ≤ w1.heap.size := G1.out.size
  rcases hw with ⟨hbar, cap, hc1, hc2, rfl⟩ | ⟨hbar, B, hB1, q1, rfl⟩
  · have HS : Hid (ofQ s.data.toList = if allD A.data.toList then lowQ false (decL A.data.toList) 1 else (false, 0, 1)) := spec_one HNEG.out HT.out HA1.out hbar
    clear hbar
    by_cases ha : allD A.data.toList = true
    · have HA := hide ha
      rw [ha, if_pos rfl] at HS
      clear ha
      go_wp2_with fail
      refine (onlyDigits_at A _ (by omega)).mono ?_
      rintro e w2 ⟨rfl, o2⟩
      rw [HA.out]
      have q0 := o2.cell q0 (by simp)
      have G2 := hide (gr_none G1.out o2)
      clear o2
      have hh_w2 : h < w2.heap.size := lt_of_cell q0
      go_wp2_with fail
      refine (setString_at w2.heap.size 0 false (.slice none 0 0) A _ (newBox w2) (allD_pos HA.out) (by omega) (allD_all HA.out)).mono ?_
      intro e w3 hE
      obtain ⟨rfl, p1, p2, _⟩ := hE
      have g3 : w2.grownBy w3 none := gr_of_put (gr_alloc (gr_refl _ _) _) p1 (Nat.le_refl _)
      have q0 := g3.cell q0 (by simp)
      have G3 := hide (gr_none G2.out g3)
      have N3 := hide p2
      generalize w2.heap.size = na at *
      clear p1 p2 g3
      go_wp2_with fail
      refine (newInt_at 1 _ (by omega) (by omega)).mono ?_
      rintro e w4 ⟨rfl, g4, p4, _⟩
      have G4 := hide (gr_none G3.out g4)
      have N4 := hide (N3.out.keep0 g4)
      have D4 := hide p4
      have q0 := g4.cell q0 (by simp)
      generalize w3.heap.size = nb at *
      clear g4 p4
      go_wp2_with fail
      refine (setFrac_pos w4.heap.size na 0 nb 0 false false (.slice none 0 0) (.slice none 0 0) (decL A.data.toList : Nat) 1 (3 * s.size + 4) _ (newRat w4).1 (newRat w4).2 ((N4.out.mono (by omega)).keep0 (gr_alloc (gr_refl _ _) _)) ((D4.out.mono (by omega)).keep0 (gr_alloc (gr_refl _ _) _)) (by omega) (by omega)).mono ?_
      rintro e w5 ⟨rfl, r5, t5⟩
      have G5 := hide (gr_trans (gr_alloc G4.out _) r5.gr (fun _ _ e => e) (fun k hk e => by cases e; have := G4.out.size; omega))
      have R5 := hide t5
      have hnew : w0.heap.size ≤ w4.heap.size := G4.out.size
      generalize w4.heap.size = nz at *
      clear r5 t5
      go_wp2
      go_ret
      exact ref_pos HS.out (by omega) R5.out G5.out hnew (by omega)
    · have ha' : allD A.data.toList = false := by simpa using ha
      have HA := hide ha'
      rw [ha'] at HS
      clear ha ha'
      go_wp2_with fail
      refine (onlyDigits_at A _ (by omega)).mono ?_
      rintro e w2 ⟨rfl, o2⟩
      rw [HA.out]
      have G2 := hide (gr_none G1.out o2)
      clear o2
      go_wp2
      go_ret
      exact ref_none HS.out G2.out
  · have HS : Hid (ofQ s.data.toList = if allD A.data.toList && allD B.data.toList then lowQ false (decL A.data.toList) (decL B.data.toList) else (false, 0, 1)) := spec_two HNEG.out HT.out HA1.out hB1 hbar
    have hBz : B.size ≤ s.size := by
      have := (cut_le s.data.toList [47]).2
      rw [← hB1, ← Lib.size_eq, ← Lib.size_eq] at this
      omega
    clear hbar hB1
    by_cases ha : allD A.data.toList = true
    · have HA := hide ha
      rw [ha, Bool.true_and] at HS
      clear ha
      by_cases hb : allD B.data.toList = true
      · have HB := hide hb
        rw [hb, if_pos rfl] at HS
        clear hb
        go_wp2_with fail
        refine (onlyDigits_at A _ (by omega)).mono ?_
        rintro e w2 ⟨rfl, o2⟩
        rw [HA.out]
        have q0 := o2.cell q0 (by simp)
        have q1 := o2.cell q1 (by simp)
        have G2 := hide (gr_none G1.out o2)
        clear o2
        go_wp2_with fail
        refine (onlyDigits_at B _ (by omega)).mono ?_
        rintro e w2b ⟨rfl, o2⟩
        rw [HB.out]
        have q0 := o2.cell q0 (by simp)
        have q1 := o2.cell q1 (by simp)
        have G2b := hide (gr_none G2.out o2)
        clear o2
        go_wp2_with fail
        refine (trimZero_at B _ (by omega)).mono ?_
        rintro e w2c ⟨r, rfl, hr, o2⟩
        have q0 := o2.cell q0 (by simp)
        have q1 := o2.cell q1 (by simp)
        have G2c := hide (gr_none G2b.out o2)
        clear o2
        by_cases hz : decL B.data.toList = 0
        · obtain rfl := hr.1 (zero_all (allD_all HB.out) hz)
          rw [hz] at HS
          clear hr hz
          go_wp2
          go_ret
          refine ref_none ?_ G2c.out
          rw [HS.out]
          unfold lowQ
          rw [if_pos (.inr rfl)]
        · have hre := hr.2 (fun h => hz (all_zero h))
          have hyp : 0 < decL B.data.toList := by omega
          clear hr hz
          have hh_w2c : h < w2c.heap.size := lt_of_cell q0
          go_wp2_with fail
          refine (setString_at w2c.heap.size 0 false (.slice none 0 0) A _ (newBox w2c) (allD_pos HA.out) (by omega) (allD_all HA.out)).mono ?_
          intro e w3 hE
          obtain ⟨rfl, p1, p2, _⟩ := hE
          have g3 : w2c.grownBy w3 none := gr_of_put (gr_alloc (gr_refl _ _) _) p1 (Nat.le_refl _)
          have q0 := g3.cell q0 (by simp)
          have q1 := g3.cell q1 (by simp)
          have G3 := hide (gr_none G2c.out g3)
          have N3 := hide p2
          generalize w2c.heap.size = na at *
          clear p1 p2 g3
          go_wp2_with fail
          refine (newInt_at 1 _ (by omega) (by omega)).mono ?_
          rintro e w3b ⟨rfl, g4, _, _⟩
          have G3b := hide (gr_none G3.out g4)
          have N3b := hide (N3.out.keep0 g4)
          have q0 := g4.cell q0 (by simp)
          have q1 := g4.cell q1 (by simp)
          clear g4
          have hh_w3b : h < w3b.heap.size := lt_of_cell q0
          go_wp2_with fail
          refine (setString_at w3b.heap.size 0 false (.slice none 0 0) B _ (newBox w3b) (allD_pos HB.out) (by omega) (allD_all HB.out)).mono ?_
          intro e w4 hE
          obtain ⟨rfl, p1, p2, _⟩ := hE
          have g4 : w3b.grownBy w4 none := gr_of_put (gr_alloc (gr_refl _ _) _) p1 (Nat.le_refl _)
          have q0 := g4.cell q0 (by simp)
          have q1 := g4.cell q1 (by simp)
          have G4 := hide (gr_none G3b.out g4)
          have N4 := hide (N3b.out.keep0 g4)
          have D4 := hide p2
          generalize w3b.heap.size = nb at *
          clear p1 p2 g4
          go_wp2_with fail
          refine (setFrac_pos w4.heap.size na 0 nb 0 false false (.slice none 0 0) (.slice none 0 0) (decL A.data.toList : Nat) (decL B.data.toList) (3 * s.size + 4) _ (newRat w4).1 (newRat w4).2 ((N4.out.mono (by omega)).keep0 (gr_alloc (gr_refl _ _) _)) ((D4.out.mono (by omega)).keep0 (gr_alloc (gr_refl _ _) _)) hyp (by omega)).mono ?_
          rintro e w5 ⟨rfl, r5, t5⟩
          have G5 := hide (gr_trans (gr_alloc G4.out _) r5.gr (fun _ _ e => e) (fun k hk e => by cases e; have := G4.out.size; omega))
          have R5 := hide t5
          have hnew : w0.heap.size ≤ w4.heap.size := G4.out.size
          generalize w4.heap.size = nz at *
          clear r5 t5
          go_wp2
          go_ret
          exact ref_pos HS.out hyp R5.out G5.out hnew (by omega)
      · have hb' : allD B.data.toList = false := by simpa using hb
        have HB := hide hb'
        rw [hb'] at HS
        clear hb hb'
        go_wp2_with fail
        refine (onlyDigits_at A _ (by omega)).mono ?_
        rintro e w2 ⟨rfl, o2⟩
        rw [HA.out]
        have q0 := o2.cell q0 (by simp)
        have q1 := o2.cell q1 (by simp)
        have G2 := hide (gr_none G1.out o2)
        clear o2
        go_wp2_with fail
        refine (onlyDigits_at B _ (by omega)).mono ?_
        rintro e w2b ⟨rfl, o2⟩
        rw [HB.out]
        have G2b := hide (gr_none G2.out o2)
        clear o2
        go_wp2
        go_ret
        exact ref_none HS.out G2b.out
    · have ha' : allD A.data.toList = false := by simpa using ha
      have HA := hide ha'
      rw [ha', Bool.false_and] at HS
      clear ha ha'
      go_wp2_with fail
      refine (onlyDigits_at A _ (by omega)).mono ?_
      rintro e w2 ⟨rfl, o2⟩
      rw [HA.out]
      have G2 := hide (gr_none G1.out o2)
      clear o2
      go_wp2
      go_ret
      exact ref_none HS.out G2.out

set_option maxHeartbeats 4000000 in
set_option maxRecDepth 10000 in
theorem refOf_true (s : ByteArray) (m : Int) (w : World) (hs : s.size ≤ 100000000) (hml : w.cell? ⟨5, 0, none⟩ = some (.int .i64 m)) (hneg : Lib.hasPrefix s.data.toList [45] = true) :
    Calls Tryz.prog 11 #[.string s] w fun e w' => RefE w s.data.toList (3 * s.size + 8) e w' := by
  have HML := hide hml
  have HNEG := hide hneg
  obtain ⟨hp1, hp2⟩ := prefix_one hneg
  have hT0 : Hid (Lib.trimPrefix s.data.toList [45] = (s.extract 1 s.size).data.toList) := hp2
  have hTz := (cut_bytes s 1 hp1).2
  clear hp2
  clear hml hneg
  go_enter Tryz.func11, Tryz.ntmps11
  go_wp2_with fail
  refine (Tryz.strings_HasPrefix s ⟨#[45]⟩ _).mono ?_
  rintro e w0 ⟨rfl, rfl⟩
  rw [show Lib.hasPrefix s.data.toList (⟨#[45]⟩ : ByteArray).data.toList = true from HNEG.out]
  go_wp2_with fail
  refine (split_at (s.extract 1 s.size) m w0 (by omega) HML.out).mono ?_
  intro e w1 hE
  obtain ⟨g1, A, hA1, q0, hw⟩ := hE
  have hAz : A.size ≤ s.size := by
    have := (cut_le ((s.extract 1 s.size)).data.toList [47]).1
    rw [← hA1, ← Lib.size_eq, ← Lib.size_eq] at this
    omega
  have G1 := hide g1
  have HA1 := hide hA1
  clear g1 hA1
  generalize w0.heap.size = h at *
  have hls : w0.heap.size ≤ w1.heap.size := G1.out.size
  rcases hw with ⟨hbar, cap, hc1, hc2, rfl⟩ | ⟨hbar, B, hB1, q1, rfl⟩
  · have HS : Hid (ofQ s.data.toList = if allD A.data.toList then lowQ true (decL A.data.toList) 1 else (false, 0, 1)) := spec_one HNEG.out hT0.out HA1.out hbar
    clear hbar
    by_cases ha : allD A.data.toList = true
    · have HA := hide ha
      rw [ha, if_pos rfl] at HS
      clear ha
      go_wp2_with fail
      refine (onlyDigits_at A _ (by omega)).mono ?_
      rintro e w2 ⟨rfl, o2⟩
      rw [HA.out]
      have q0 := o2.cell q0 (by simp)
      have G2 := hide (gr_none G1.out o2)
      clear o2
      have hh_w2 : h < w2.heap.size := lt_of_cell q0
      go_wp2_with fail
      refine (setString_at w2.heap.size 0 false (.slice none 0 0) A _ (newBox w2) (allD_pos HA.out) (by omega) (allD_all HA.out)).mono ?_
      intro e w3 hE
      obtain ⟨rfl, p1, p2, _⟩ := hE
      have g3 : w2.grownBy w3 none := gr_of_put (gr_alloc (gr_refl _ _) _) p1 (Nat.le_refl _)
      have q0 := g3.cell q0 (by simp)
      have G3 := hide (gr_none G2.out g3)
      have N3 := hide p2
      generalize w2.heap.size = na at *
      clear p1 p2 g3
      go_wp2_with fail
      refine (newInt_at 1 _ (by omega) (by omega)).mono ?_
      rintro e w4 ⟨rfl, g4, p4, _⟩
      have G4 := hide (gr_none G3.out g4)
      have N4 := hide (N3.out.keep0 g4)
      have D4 := hide p4
      have q0 := g4.cell q0 (by simp)
      generalize w3.heap.size = nb at *
      clear g4 p4
      go_wp2_with fail
      refine (setFrac_pos w4.heap.size na 0 nb 0 false false (.slice none 0 0) (.slice none 0 0) (decL A.data.toList : Nat) 1 (3 * s.size + 4) _ (newRat w4).1 (newRat w4).2 ((N4.out.mono (by omega)).keep0 (gr_alloc (gr_refl _ _) _)) ((D4.out.mono (by omega)).keep0 (gr_alloc (gr_refl _ _) _)) (by omega) (by omega)).mono ?_
      rintro e w5 ⟨rfl, r5, t5⟩
      have G5 := hide (gr_trans (gr_alloc G4.out _) r5.gr (fun _ _ e => e) (fun k hk e => by cases e; have := G4.out.size; omega))
      have R5 := hide t5
      have hnew : w0.heap.size ≤ w4.heap.size := G4.out.size
      generalize w4.heap.size = nz at *
      clear r5 t5
      go_wp2_with fail
      refine (ratNeg_self nz _ _ _ w5 R5.out (by omega)).mono ?_
      rintro e w6 ⟨rfl, r6, t6⟩
      have G6 := hide (gr_trans G5.out r6.gr (fun _ _ e => e) (fun k hk e => by cases e; omega))
      have R6 := hide t6
      clear r6 t6
      go_wp2
      go_ret
      exact ref_neg HS.out (by omega) R6.out G6.out hnew (by omega)
    · have ha' : allD A.data.toList = false := by simpa using ha
      have HA := hide ha'
      rw [ha'] at HS
      clear ha ha'
      go_wp2_with fail
      refine (onlyDigits_at A _ (by omega)).mono ?_
      rintro e w2 ⟨rfl, o2⟩
      rw [HA.out]
      have G2 := hide (gr_none G1.out o2)
      clear o2
      go_wp2
      go_ret
      exact ref_none HS.out G2.out
  · have HS : Hid (ofQ s.data.toList = if allD A.data.toList && allD B.data.toList then lowQ true (decL A.data.toList) (decL B.data.toList) else (false, 0, 1)) := spec_two HNEG.out hT0.out HA1.out hB1 hbar
    have hBz : B.size ≤ s.size := by
      have := (cut_le (s.extract 1 s.size).data.toList [47]).2
      rw [← hB1, ← Lib.size_eq, ← Lib.size_eq] at this
      omega
    clear hbar hB1
    by_cases ha : allD A.data.toList = true
    · have HA := hide ha
      rw [ha, Bool.true_and] at HS
      clear ha
      by_cases hb : allD B.data.toList = true
      · have HB := hide hb
        rw [hb, if_pos rfl] at HS
        clear hb
        go_wp2_with fail
        refine (onlyDigits_at A _ (by omega)).mono ?_
        rintro e w2 ⟨rfl, o2⟩
        rw [HA.out]
        have q0 := o2.cell q0 (by simp)
        have q1 := o2.cell q1 (by simp)
        have G2 := hide (gr_none G1.out o2)
        clear o2
        go_wp2_with fail
        refine (onlyDigits_at B _ (by omega)).mono ?_
        rintro e w2b ⟨rfl, o2⟩
        rw [HB.out]
        have q0 := o2.cell q0 (by simp)
        have q1 := o2.cell q1 (by simp)
        have G2b := hide (gr_none G2.out o2)
        clear o2
        go_wp2_with fail
        refine (trimZero_at B _ (by omega)).mono ?_
        rintro e w2c ⟨r, rfl, hr, o2⟩
        have q0 := o2.cell q0 (by simp)
        have q1 := o2.cell q1 (by simp)
        have G2c := hide (gr_none G2b.out o2)
        clear o2
        by_cases hz : decL B.data.toList = 0
        · obtain rfl := hr.1 (zero_all (allD_all HB.out) hz)
          rw [hz] at HS
          clear hr hz
          go_wp2
          go_ret
          refine ref_none ?_ G2c.out
          rw [HS.out]
          unfold lowQ
          rw [if_pos (.inr rfl)]
        · have hre := hr.2 (fun h => hz (all_zero h))
          have hyp : 0 < decL B.data.toList := by omega
          clear hr hz
          have hh_w2c : h < w2c.heap.size := lt_of_cell q0
          go_wp2_with fail
          refine (setString_at w2c.heap.size 0 false (.slice none 0 0) A _ (newBox w2c) (allD_pos HA.out) (by omega) (allD_all HA.out)).mono ?_
          intro e w3 hE
          obtain ⟨rfl, p1, p2, _⟩ := hE
          have g3 : w2c.grownBy w3 none := gr_of_put (gr_alloc (gr_refl _ _) _) p1 (Nat.le_refl _)
          have q0 := g3.cell q0 (by simp)
          have q1 := g3.cell q1 (by simp)
          have G3 := hide (gr_none G2c.out g3)
          have N3 := hide p2
          generalize w2c.heap.size = na at *
          clear p1 p2 g3
          go_wp2_with fail
          refine (newInt_at 1 _ (by omega) (by omega)).mono ?_
          rintro e w3b ⟨rfl, g4, _, _⟩
          have G3b := hide (gr_none G3.out g4)
          have N3b := hide (N3.out.keep0 g4)
          have q0 := g4.cell q0 (by simp)
          have q1 := g4.cell q1 (by simp)
          clear g4
          have hh_w3b : h < w3b.heap.size := lt_of_cell q0
          go_wp2_with fail
          refine (setString_at w3b.heap.size 0 false (.slice none 0 0) B _ (newBox w3b) (allD_pos HB.out) (by omega) (allD_all HB.out)).mono ?_
          intro e w4 hE
          obtain ⟨rfl, p1, p2, _⟩ := hE
          have g4 : w3b.grownBy w4 none := gr_of_put (gr_alloc (gr_refl _ _) _) p1 (Nat.le_refl _)
          have q0 := g4.cell q0 (by simp)
          have q1 := g4.cell q1 (by simp)
          have G4 := hide (gr_none G3b.out g4)
          have N4 := hide (N3b.out.keep0 g4)
          have D4 := hide p2
          generalize w3b.heap.size = nb at *
          clear p1 p2 g4
          go_wp2_with fail
          refine (setFrac_pos w4.heap.size na 0 nb 0 false false (.slice none 0 0) (.slice none 0 0) (decL A.data.toList : Nat) (decL B.data.toList) (3 * s.size + 4) _ (newRat w4).1 (newRat w4).2 ((N4.out.mono (by omega)).keep0 (gr_alloc (gr_refl _ _) _)) ((D4.out.mono (by omega)).keep0 (gr_alloc (gr_refl _ _) _)) hyp (by omega)).mono ?_
          rintro e w5 ⟨rfl, r5, t5⟩
          have G5 := hide (gr_trans (gr_alloc G4.out _) r5.gr (fun _ _ e => e) (fun k hk e => by cases e; have := G4.out.size; omega))
          have R5 := hide t5
          have hnew : w0.heap.size ≤ w4.heap.size := G4.out.size
          generalize w4.heap.size = nz at *
          clear r5 t5
          go_wp2_with fail
          refine (ratNeg_self nz _ _ _ w5 R5.out (by omega)).mono ?_
          rintro e w6 ⟨rfl, r6, t6⟩
          have G6 := hide (gr_trans G5.out r6.gr (fun _ _ e => e) (fun k hk e => by cases e; omega))
          have R6 := hide t6
          clear r6 t6
          go_wp2
          go_ret
          exact ref_neg HS.out hyp R6.out G6.out hnew (by omega)
      · have hb' : allD B.data.toList = false := by simpa using hb
        have HB := hide hb'
        rw [hb'] at HS
        clear hb hb'
        go_wp2_with fail
        refine (onlyDigits_at A _ (by omega)).mono ?_
        rintro e w2 ⟨rfl, o2⟩
        rw [HA.out]
        have q0 := o2.cell q0 (by simp)
        have q1 := o2.cell q1 (by simp)
        have G2 := hide (gr_none G1.out o2)
        clear o2
        go_wp2_with fail
        refine (onlyDigits_at B _ (by omega)).mono ?_
        rintro e w2b ⟨rfl, o2⟩
        rw [HB.out]
        have G2b := hide (gr_none G2.out o2)
        clear o2
        go_wp2
        go_ret
        exact ref_none HS.out G2b.out
    · have ha' : allD A.data.toList = false := by simpa using ha
      have HA := hide ha'
      rw [ha', Bool.false_and] at HS
      clear ha ha'
      go_wp2_with fail
      refine (onlyDigits_at A _ (by omega)).mono ?_
      rintro e w2 ⟨rfl, o2⟩
      rw [HA.out]
      have G2 := hide (gr_none G1.out o2)
      clear o2
      go_wp2
      go_ret
      exact ref_none HS.out G2.out

/-- What Of answers, whatever the text. -/
theorem refOf_at (s : ByteArray) (m : Int) (w : World) (hs : s.size ≤ 100000000) (hml : w.cell? ⟨5, 0, none⟩ = some (.int .i64 m)) :
    Calls Tryz.prog 11 #[.string s] w fun e w' => RefE w s.data.toList (3 * s.size + 8) e w' := by
  cases hneg : Lib.hasPrefix s.data.toList [45] with
  | false => exact refOf_false s m w hs hml hneg
  | true => exact refOf_true s m w hs hml hneg
end Go.Proofs.YtgdiepfknfnmjaaGreatDoor
