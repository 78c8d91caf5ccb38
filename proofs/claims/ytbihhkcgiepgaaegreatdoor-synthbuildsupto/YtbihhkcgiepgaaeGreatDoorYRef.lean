/- The reference's numbers as the law reads them: Of, Sign, T; how long a number's text is. -/
import Derived.Test.YtbihhkcgiepgaaeGreatDoorMBg
import Derived.Test.YtbihhkcgiepgaaeGreatDoorMFg
import Derived.Test.YtbihhkcgiepgaaeGreatDoorMTa
namespace Go.Proofs.YtbihhkcgiepgaaeGreatDoor
open Go.RowKit
set_option linter.unusedVariables false
set_option linter.unusedSimpArgs false

theorem qtext_ofR (s : ByteArray) (h : s.size ≤ 1048576) : (⟨(qtext (ofR s.data.toList)).toArray⟩ : ByteArray).size ≤ 600000000 := by
  have h1 := ofR_fit s.data.toList
  have h2 := qtext_len (q := ofR s.data.toList) (L := s.data.toList.length / 8 + 2) h1 (by omega)
  have h3 : s.data.toList.length = s.size := Array.length_toList
  show ((qtext (ofR s.data.toList)).toArray).size ≤ _
  rw [List.size_toArray]
  omega

/-- A number or nothing. -/
def RV (w : World) (b : Nat) (q : Rat) (L : Nat) : Prop := RQ w b q L ∨ (q = 0 ∧ RNil w b L)

theorem RV.keep0 {w w' : World} {b L : Nat} {q : Rat} (h : RV w b q L) (hg : w.grownBy w' none) : RV w' b q L := by
  rcases h with h | ⟨e, h⟩
  · exact .inl (h.keep0 hg)
  · exact .inr ⟨e, h.1.keep0 hg, h.2.keep0 hg⟩

theorem rOfV_at (s : ByteArray) (q : Rat) (w : World) (hs : s.size ≤ 1048576) (hq : Hid (q = ofR s.data.toList)) (hml : MLen w) :
    Calls Tryz.prog 10 #[.string s] w fun e w' => ∃ b, e = .returned (.pointer (some ⟨b, 0, none⟩)) ∧ RV w' b q 4000000 ∧ w.grownBy w' none := by
  obtain ⟨m, hm⟩ := hml
  refine (rOf_at s m w (by omega) hm).mono ?_
  rintro e w' ⟨b, rfl, h1, h2⟩
  rw [← hq.out] at h2
  refine ⟨b, rfl, ?_, h1⟩
  rcases h2 with h | ⟨e, h⟩
  · exact .inl ⟨h.1.mono (by omega), h.2.1.mono (by omega), h.2.2⟩
  · exact .inr ⟨e, h.1.mono (by omega), h.2.mono (by omega)⟩

theorem sgn_sign (z : Int) : sgn z = z.sign := by
  unfold sgn
  rcases Int.lt_trichotomy z 0 with h | h | h
  · rw [if_pos h, Int.sign_eq_neg_one_of_neg h]
  · subst h; rfl
  · rw [if_neg (by omega), if_pos h, Int.sign_eq_one_of_pos h]

theorem rSignV_at (b : Nat) (q : Rat) (L : Nat) (w : World) (h : RV w b q L) :
    Calls Tryz.prog 11 #[.pointer (some ⟨b, 0, none⟩)] w fun e w' => e = .returned (.int .i64 q.num.sign) ∧ w' = w := by
  rcases h with h | ⟨e, h⟩
  · refine (ratSign_at b q.num L w h.1).mono ?_
    rintro e w' ⟨rfl, rfl⟩
    exact ⟨by rw [sgn_sign], rfl⟩
  · refine (ratSign_at b 0 L w h.1).mono ?_
    rintro e' w' ⟨rfl, rfl⟩
    exact ⟨by rw [e]; rfl, rfl⟩

theorem rTV_at (b : Nat) (q : Rat) (w : World) (h : RV w b q 4000000) :
    Calls Tryz.prog 33 #[.pointer (some ⟨b, 0, none⟩)] w fun e w' => e = .returned (.string ⟨(qtext q).toArray⟩) ∧ w.grownBy w' none := by
  rcases h with h | ⟨rfl, h⟩
  · exact rT_at b q 4000000 w h (by decide)
  · exact rT_nil b 4000000 w h (by decide)
end Go.Proofs.YtbihhkcgiepgaaeGreatDoor
