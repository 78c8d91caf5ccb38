/- frac: Of, Sign. -/
import Derived.Test.YtfhamfgcjdhmdaaDoorFNat
namespace Go.Proofs.YtfhamfgcjdhmdaaDoor
open Go.RowKit
set_option linter.unusedVariables false

/-- Lowest terms: below 0 or not, what is above the bar, what is below. -/
def lowQ (b : Bool) (n d : Nat) : Bool × Nat × Nat := if n = 0 ∨ d = 0 then (false, 0, 1) else (b, n / Nat.gcd n d, d / Nat.gcd n d)

/-- What stands below the bar. -/
def downOf (l : List UInt8) : List UInt8 := if (Lib.cut l [47]).2.2 then (Lib.cut l [47]).2.1 else [49]

/-- What a text counts as. -/
def ofQ (l : List UInt8) : Bool × Nat × Nat :=
  if allD (Lib.cut (Lib.trimPrefix l [45]) [47]).1 && allD (downOf (Lib.trimPrefix l [45])) then
    lowQ (Lib.hasPrefix l [45]) (decL (Lib.cut (Lib.trimPrefix l [45]) [47]).1) (decL (downOf (Lib.trimPrefix l [45])))
  else (false, 0, 1)

theorem cut_le (l sep : List UInt8) : (Lib.cut l sep).1.length ≤ l.length ∧ (Lib.cut l sep).2.1.length ≤ l.length := by
  unfold Lib.cut
  split
  · simp only [List.length_take, List.length_drop]; omega
  · simp

theorem trimPrefix_le (l p : List UInt8) : (Lib.trimPrefix l p).length ≤ l.length := by
  unfold Lib.trimPrefix
  split
  · simp
  · exact Nat.le_refl _

theorem bytes_of (l : List UInt8) : (⟨l.toArray⟩ : ByteArray).data.toList = l := rfl
theorem size_of (l : List UInt8) : (⟨l.toArray⟩ : ByteArray).size = l.length := by simp [ByteArray.size]

theorem allD_all {l : List UInt8} (h : allD l = true) : ∀ c ∈ l, isD c = true := by
  unfold allD at h
  rw [Bool.and_eq_true] at h
  exact fun c hc => List.all_eq_true.1 h.2 c hc

/-- What Of answers. -/
def OfE (w : World) (l : List UInt8) (L : Nat) (e : Ending) (w' : World) : Prop := ∃ v, e = .returned v ∧ FV w' v (ofQ l).1 (ofQ l).2.1 (ofQ l).2.2 L ∧ w.grownBy w' none

/-- lowest, in one sentence. -/
theorem lowest_at (below : Bool) (u d : Value) (n m L : Nat) (w : World) (hu : Num w u n L) (hd : Num w d m L) (hl : L ≤ 800000000) :
    Calls Tryd.prog 31 #[.bool below, u, d] w fun e w' => LowE w (lowQ below n m).1 (lowQ below n m).2.1 (lowQ below n m).2.2 L e w' := by
  by_cases h : n = 0 ∨ m = 0
  · have e : lowQ below n m = (false, 0, 1) := by unfold lowQ; rw [if_pos h]
    rw [e]
    exact lowest_zero below u d n m L w hu hd h
  · have e : lowQ below n m = (below, n / Nat.gcd n m, m / Nat.gcd n m) := by unfold lowQ; rw [if_neg h]
    rw [e]
    exact lowest_pos below u d n m L w hu hd (by omega) (by omega) hl

theorem FV.other {w w' : World} {v : Value} {neg : Bool} {n d L g : Nat} (h : FV w v neg n d L) (hg : NoWords w g) (hgr : w.grownBy w' (some g)) : FV w' v neg n d L := by
  obtain ⟨up, down, e, h1, h2, h3, h4⟩ := h
  refine ⟨up, down, e, h1.other hg hgr, ?_, h3, h4⟩
  rcases h2 with h2 | ⟨h2, h5⟩
  · exact .inl h2
  · exact .inr ⟨h2.other hg hgr, h5⟩

theorem FV.shape {w : World} {v : Value} {neg : Bool} {n d L : Nat} (h : FV w v neg n d L) : ∃ uo ul uc do_ dl dc, v = .agg #[.bool neg, .slice uo ul uc, .slice do_ dl dc] := by
  obtain ⟨up, down, e, h1, h2, h3, h4⟩ := h
  obtain ⟨uo, ul, uc, rfl, _⟩ := h1.shape
  rcases h2 with ⟨rfl, _⟩ | ⟨h2, _⟩
  · exact ⟨_, _, _, _, _, _, e⟩
  · obtain ⟨do_, dl, dc, rfl, _⟩ := h2.shape
    exact ⟨_, _, _, _, _, _, e⟩

theorem FV.set {w : World} {v : Value} {neg : Bool} {n d L g i : Nat} {x up down : Value} (hv : v = .agg #[.bool neg, up, down]) (h : FV w v neg n d L) (h1 : Off g up) (h2 : Off g down) : FV (w.setCell ⟨g, i, none⟩ x) v neg n d L := by
  obtain ⟨up', down', e, k1, k2, k3, k4⟩ := h
  subst hv
  simp only [Value.agg.injEq, Array.mk.injEq, List.cons.injEq, and_true, true_and] at e
  obtain ⟨rfl, rfl⟩ := e
  refine ⟨_, _, rfl, k1.set h1, ?_, k3, k4⟩
  rcases k2 with k2 | ⟨k2, k5⟩
  · exact .inl k2
  · exact .inr ⟨k2.set h2, k5⟩

theorem of_none {w w' : World} {l : List UInt8} {L : Nat} (h : ofQ l = (false, 0, 1)) (hg : w.grownBy w' none) : OfE w l L (.returned (.agg #[.bool false, .slice none 0 0, .slice none 0 0])) w' := by
  refine ⟨_, rfl, ?_, hg⟩
  rw [h]
  exact ⟨_, _, rfl, ⟨[], Ws.nil _, rfl, rfl, by simp⟩, .inl ⟨rfl, rfl⟩, rfl, by simp⟩

set_option maxHeartbeats 2000000 in
set_option maxRecDepth 10000 in
theorem of_at (s : ByteArray) (m : Int) (w : World) (hs : s.size ≤ 600000000) (hml : w.cell? ⟨1, 0, none⟩ = some (.int .i64 m)) :
    Calls Tryd.prog 26 #[.string s] w fun e w' => OfE w s.data.toList (s.size + 1) e w' := by
  have hml2 : (w.alloc (Obj.cells #[Value.bool false, Value.slice none 0 0, Value.slice none 0 0] 64)).cell? ⟨1, 0, none⟩ = some (.int .i64 m) :=
    (World.grownBy_alloc w _ none).cell hml (by simp)
  have HML := hide hml2
  clear hml hml2
  go_enter Tryd.func26, Tryd.ntmps26
  go_wp2_with fail
  refine (Tryd.strings_CutPrefix s ⟨#[45]⟩ _).mono ?_
  rintro e w1 ⟨rfl, rfl⟩
  rw [show (⟨#[45]⟩ : ByteArray).data.toList = [45] from rfl]
  obtain ⟨d, hd⟩ : ∃ d : ByteArray, d = ⟨(Lib.trimPrefix s.data.toList [45]).toArray⟩ := ⟨_, rfl⟩
  rw [← hd]
  have hdl : Hid (d.data.toList = Lib.trimPrefix s.data.toList [45]) := by rw [hd]; rfl
  have hdz : d.size ≤ s.size := by rw [hd, size_of, Lib.size_eq]; exact trimPrefix_le _ _
  clear hd
  obtain ⟨neg, hneg⟩ : ∃ b : Bool, b = Lib.hasPrefix s.data.toList [45] := ⟨_, rfl⟩
  rw [← hneg]
  have HNEG := hide hneg
  clear hneg
  go_wp2_with fail
  refine (Tryd.strings_Cut d ⟨#[47]⟩ m _ (by omega) HML.out).mono ?_
  rintro e w2 ⟨rfl, q2, rfl⟩
  rw [show (⟨#[47]⟩ : ByteArray).data.toList = [47] from rfl]
  obtain ⟨up, hup⟩ : ∃ u : ByteArray, u = ⟨(Lib.cut d.data.toList [47]).1.toArray⟩ := ⟨_, rfl⟩
  obtain ⟨dn, hdn⟩ : ∃ u : ByteArray, u = ⟨(Lib.cut d.data.toList [47]).2.1.toArray⟩ := ⟨_, rfl⟩
  obtain ⟨bar, hbar⟩ : ∃ b : Bool, b = (Lib.cut d.data.toList [47]).2.2 := ⟨_, rfl⟩
  rw [← hup, ← hdn, ← hbar]
  have hul : Hid (up.data.toList = (Lib.cut d.data.toList [47]).1) := by rw [hup]; rfl
  have hdl2 : Hid (dn.data.toList = (Lib.cut d.data.toList [47]).2.1) := by rw [hdn]; rfl
  have huz : up.size ≤ s.size := by
    have := (cut_le d.data.toList [47]).1
    rw [hup, size_of]; rw [← Lib.size_eq] at this; omega
  have hdz2 : dn.size ≤ s.size := by
    have := (cut_le d.data.toList [47]).2
    rw [hdn, size_of]; rw [← Lib.size_eq] at this; omega
  have HBAR := hide hbar
  clear hup hdn hbar
  have HSPEC : Hid (∀ x : ByteArray, x.data.toList = (if bar then dn.data.toList else [49]) → ofQ s.data.toList = if allD up.data.toList && allD x.data.toList then lowQ neg (decL up.data.toList) (decL x.data.toList) else (false, 0, 1)) := by
    intro x hx
    have e : downOf (Lib.trimPrefix s.data.toList [45]) = x.data.toList := by
      unfold downOf
      rw [hx, ← hdl.out, HBAR.out, hdl2.out]
    unfold ofQ
    rw [e, ← hdl.out, ← hul.out, ← HNEG.out]
  have G2 : Hid (w.grownBy ((w.alloc (Obj.cells #[Value.bool false, Value.slice none 0 0, Value.slice none 0 0] 64)).drewN q2) none) := gr_drewN (gr_alloc (gr_refl _ _) _) _
  by_cases hbr : bar = true
  · subst hbr
    have HS := hide (HSPEC.out dn (by simp))
    have hxz : dn.size ≤ s.size + 1 := by omega
    by_cases ha : allD up.data.toList = true
    · have HA := hide ha
      clear ha
      by_cases hb : allD (dn).data.toList = true
      · have HB := hide hb
        clear hb
        go_wp2_with (first
          | (go_at_call_of 30 (Value.string up); refine (isDigits_at up _ (by omega)).mono ?_; rintro e w3 ⟨rfl, rfl⟩; rw [HA.out])
          | (go_at_call_of 30 (Value.string dn); refine (isDigits_at dn _ (by omega)).mono ?_; rintro e w3 ⟨rfl, rfl⟩; rw [HB.out]))
        refine (readNat_at up _ (by omega) (allD_all HA.out)).mono ?_
        rintro e w3 ⟨uv, rfl, n1, n2, n3⟩
        have N1 := hide n1
        have N2 := hide n2
        have N3 := hide n3
        obtain ⟨uo, ul, uc, rfl, _, _, _⟩ := n1.shape
        clear n1 n2 n3
        go_wp2_with fail
        refine (readNat_at (dn) _ (by omega) (allD_all HB.out)).mono ?_
        rintro e w4 ⟨dv, rfl, m1, m2, m3⟩
        have M1 := hide m1
        have M2 := hide m2
        have M3 := hide m3
        obtain ⟨do_, dl, dc, rfl, _, _, _⟩ := m1.shape
        clear m1 m2 m3
        go_wp2_with fail
        refine (lowest_at neg _ _ _ _ (s.size + 1) _ ((N1.out.keep0 M2.out).mono (by omega)) (M1.out.mono hxz) (by omega)).mono ?_
        intro e w5 hL
        obtain ⟨v, rfl, f1, f2⟩ := hL
        have K5 := hide (gr_none (gr_d q2) (gr_none N2.out (gr_none M2.out f2)))
        have G5 := hide (gr_none G2.out (gr_none N2.out (gr_none M2.out f2)))
        have NW := hide (noWords_res K5.out)
        obtain ⟨uo5, ul5, uc5, do5, dl5, dc5, ev⟩ := f1.shape
        have F1 := hide f1
        obtain ⟨c0, c1, c2, cf⟩ := res_cells K5.out
        have cf0 := cf 0
        have cf1 := cf 1
        have cf2 := cf 2
        subst ev
        have HS2 := HS.out
        rw [HA.out, HB.out] at HS2
        simp only [Bool.and_self, if_true] at HS2
        have HS3 := hide HS2
        obtain ⟨fneg, hfn⟩ : ∃ b : Bool, b = (lowQ neg (decL up.data.toList) (decL (dn).data.toList)).1 := ⟨_, rfl⟩
        rw [← hfn]
        have HFN := hide hfn
        clear f1 f2 cf HS HS2 hfn
        go_wp2
        refine bodyPost_ret (v := .agg #[.bool fneg, .slice uo5 ul5 uc5, .slice do5 dl5 dc5]) (by simp [results, Tryd.results26, go_sem, c0, c1, c2]) rfl ?_
        refine ⟨_, rfl, ?_, gr_in G5.out gr_three (Nat.le_refl _)⟩
        rw [HS3.out]
        have := F1.out.other NW.out (gr_three (a := .bool fneg) (b := .slice uo5 ul5 uc5) (c := .slice do5 dl5 dc5))
        rw [← HFN.out] at this ⊢
        exact this
      · have HB : Hid (allD (dn).data.toList = false) := hide (by simpa using hb)
        clear hb
        have HS2 := HS.out
        rw [HA.out, HB.out] at HS2
        simp at HS2
        have HS3 := hide HS2
        clear HS2 HS
        go_wp2_with (first
          | (go_at_call_of 30 (Value.string up); refine (isDigits_at up _ (by omega)).mono ?_; rintro e w3 ⟨rfl, rfl⟩; rw [HA.out])
          | (go_at_call_of 30 (Value.string dn); refine (isDigits_at dn _ (by omega)).mono ?_; rintro e w3 ⟨rfl, rfl⟩; rw [HB.out]))
        refine bodyPost_ret (v := .agg #[.bool false, .slice none 0 0, .slice none 0 0]) (by simp [results, Tryd.results26, go_sem]) rfl ?_
        exact of_none HS3.out (gr_in G2.out gr_three (Nat.le_refl _))
    · have HA : Hid (allD up.data.toList = false) := hide (by simpa using ha)
      clear ha
      have HS2 := HS.out
      rw [HA.out] at HS2
      simp at HS2
      have HS3 := hide HS2
      clear HS2 HS
      go_wp2_with (first
        | (go_at_call_of 30 (Value.string up); refine (isDigits_at up _ (by omega)).mono ?_; rintro e w3 ⟨rfl, rfl⟩; rw [HA.out]))
      refine bodyPost_ret (v := .agg #[.bool false, .slice none 0 0, .slice none 0 0]) (by simp [results, Tryd.results26, go_sem]) rfl ?_
      exact of_none HS3.out (gr_in G2.out gr_three (Nat.le_refl _))
  · obtain rfl : bar = false := by simpa using hbr
    clear hbr
    have HS := hide (HSPEC.out (⟨#[49]⟩ : ByteArray) (by rfl))
    have hxz : (⟨#[49]⟩ : ByteArray).size ≤ s.size + 1 := by have : (⟨#[49]⟩ : ByteArray).size = 1 := rfl; omega
    by_cases ha : allD up.data.toList = true
    · have HA := hide ha
      clear ha
      by_cases hb : allD ((⟨#[49]⟩ : ByteArray)).data.toList = true
      · have HB := hide hb
        clear hb
        go_wp2_with (first
          | (go_at_call_of 30 (Value.string up); refine (isDigits_at up _ (by omega)).mono ?_; rintro e w3 ⟨rfl, rfl⟩; rw [HA.out])
          | (go_at_call_of 30 (Value.string (⟨#[49]⟩ : ByteArray)); refine (isDigits_at (⟨#[49]⟩ : ByteArray) _ (by omega)).mono ?_; rintro e w3 ⟨rfl, rfl⟩; rw [HB.out]))
        refine (readNat_at up _ (by omega) (allD_all HA.out)).mono ?_
        rintro e w3 ⟨uv, rfl, n1, n2, n3⟩
        have N1 := hide n1
        have N2 := hide n2
        have N3 := hide n3
        obtain ⟨uo, ul, uc, rfl, _, _, _⟩ := n1.shape
        clear n1 n2 n3
        go_wp2_with fail
        refine (readNat_at ((⟨#[49]⟩ : ByteArray)) _ (by omega) (allD_all HB.out)).mono ?_
        rintro e w4 ⟨dv, rfl, m1, m2, m3⟩
        have M1 := hide m1
        have M2 := hide m2
        have M3 := hide m3
        obtain ⟨do_, dl, dc, rfl, _, _, _⟩ := m1.shape
        clear m1 m2 m3
        go_wp2_with fail
        refine (lowest_at neg _ _ _ _ (s.size + 1) _ ((N1.out.keep0 M2.out).mono (by omega)) (M1.out.mono hxz) (by omega)).mono ?_
        intro e w5 hL
        obtain ⟨v, rfl, f1, f2⟩ := hL
        have K5 := hide (gr_none (gr_d q2) (gr_none N2.out (gr_none M2.out f2)))
        have G5 := hide (gr_none G2.out (gr_none N2.out (gr_none M2.out f2)))
        have NW := hide (noWords_res K5.out)
        obtain ⟨uo5, ul5, uc5, do5, dl5, dc5, ev⟩ := f1.shape
        have F1 := hide f1
        obtain ⟨c0, c1, c2, cf⟩ := res_cells K5.out
        have cf0 := cf 0
        have cf1 := cf 1
        have cf2 := cf 2
        subst ev
        have HS2 := HS.out
        rw [HA.out, HB.out] at HS2
        simp only [Bool.and_self, if_true] at HS2
        have HS3 := hide HS2
        obtain ⟨fneg, hfn⟩ : ∃ b : Bool, b = (lowQ neg (decL up.data.toList) (decL ((⟨#[49]⟩ : ByteArray)).data.toList)).1 := ⟨_, rfl⟩
        rw [← hfn]
        have HFN := hide hfn
        clear f1 f2 cf HS HS2 hfn
        go_wp2
        refine bodyPost_ret (v := .agg #[.bool fneg, .slice uo5 ul5 uc5, .slice do5 dl5 dc5]) (by simp [results, Tryd.results26, go_sem, c0, c1, c2]) rfl ?_
        refine ⟨_, rfl, ?_, gr_in G5.out gr_three (Nat.le_refl _)⟩
        rw [HS3.out]
        have := F1.out.other NW.out (gr_three (a := .bool fneg) (b := .slice uo5 ul5 uc5) (c := .slice do5 dl5 dc5))
        rw [← HFN.out] at this ⊢
        exact this
      · have HB : Hid (allD ((⟨#[49]⟩ : ByteArray)).data.toList = false) := hide (by simpa using hb)
        clear hb
        have HS2 := HS.out
        rw [HA.out, HB.out] at HS2
        simp at HS2
        have HS3 := hide HS2
        clear HS2 HS
        go_wp2_with (first
          | (go_at_call_of 30 (Value.string up); refine (isDigits_at up _ (by omega)).mono ?_; rintro e w3 ⟨rfl, rfl⟩; rw [HA.out])
          | (go_at_call_of 30 (Value.string (⟨#[49]⟩ : ByteArray)); refine (isDigits_at (⟨#[49]⟩ : ByteArray) _ (by omega)).mono ?_; rintro e w3 ⟨rfl, rfl⟩; rw [HB.out]))
        refine bodyPost_ret (v := .agg #[.bool false, .slice none 0 0, .slice none 0 0]) (by simp [results, Tryd.results26, go_sem]) rfl ?_
        exact of_none HS3.out (gr_in G2.out gr_three (Nat.le_refl _))
    · have HA : Hid (allD up.data.toList = false) := hide (by simpa using ha)
      clear ha
      have HS2 := HS.out
      rw [HA.out] at HS2
      simp at HS2
      have HS3 := hide HS2
      clear HS2 HS
      go_wp2_with (first
        | (go_at_call_of 30 (Value.string up); refine (isDigits_at up _ (by omega)).mono ?_; rintro e w3 ⟨rfl, rfl⟩; rw [HA.out]))
      refine bodyPost_ret (v := .agg #[.bool false, .slice none 0 0, .slice none 0 0]) (by simp [results, Tryd.results26, go_sem]) rfl ?_
      exact of_none HS3.out (gr_in G2.out gr_three (Nat.le_refl _))
end Go.Proofs.YtfhamfgcjdhmdaaDoor
