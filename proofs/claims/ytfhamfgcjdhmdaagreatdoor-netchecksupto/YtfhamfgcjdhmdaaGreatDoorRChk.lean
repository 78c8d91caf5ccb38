/- voltaicref: what CheckNet asks of a part; F; CheckNet's closure. -/
import Derived.Test.YtfhamfgcjdhmdaaGreatDoorROf2
import Derived.Test.YtfhamfgcjdhmdaaGreatDoorMNa
namespace Go.Proofs.YtfhamfgcjdhmdaaGreatDoor
open Go.RowKit
set_option linter.unusedVariables false

/-- What is wrong with a part, where diodes may be or not. -/
def wrongD (dio : Bool) (p : Prt) (nodes : Int) : Int := if p.kind = 8 ∧ dio = false then 3 else wrongP p nodes

def firstBadD (dio : Bool) (nodes : Int) : List Prt → Nat → Int × Int
  | [], _ => (0, 0)
  | p :: r, i => if wrongD dio p nodes = 0 then firstBadD dio nodes r (i + 1) else (wrongD dio p nodes, (i : Int))

def checkD (dio : Bool) (nodes : Int) (ps : List Prt) : Int × Int := if nodes < 1 ∨ 8 < nodes ∨ 16 < ps.length then (2, 0) else firstBadD dio nodes ps 0

def CheckDE (dio : Bool) (w : World) (nodes : Int) (ps : List Prt) (e : Ending) (w' : World) : Prop := e = .returned (.agg #[.int .i64 (checkD dio nodes ps).1, .int .i64 (checkD dio nodes ps).2]) ∧ w.grownBy w' none

theorem checkD_true (nodes : Int) (ps : List Prt) : checkD true nodes ps = checkN nodes ps := by
  have key : ∀ (ps : List Prt) (i : Nat), firstBadD true nodes ps i = firstBad nodes ps i := by
    intro ps
    induction ps with
    | nil => intro i; rfl
    | cons p r ih =>
      intro i
      have e : wrongD true p nodes = wrongP p nodes := by unfold wrongD; rw [if_neg (by simp)]
      rw [firstBadD, firstBad, e, ih]
  unfold checkD checkN
  rw [key]

theorem kinds_of {k : Int} {dio : Bool} (k1 : ¬ k < 1) (k8 : ¬ 8 < k) (k9 : ¬ (k = 8 ∧ dio = false)) : (k = 1 ∨ k = 2 ∨ k = 3) ∨ (k = 4 ∨ k = 5) ∨ k = 6 ∨ k = 7 ∨ (k = 8 ∧ dio = true) := by
  by_cases h : k = 8
  · have : dio = true := by cases dio; exact absurd ⟨h, rfl⟩ k9; rfl
    exact .inr (.inr (.inr (.inr ⟨h, this⟩)))
  · omega

section
variable {k pa pb pc pd : Int} {v : ByteArray} {nodes : Int} {dio : Bool}
theorem wd_kind (h : k < 1 ∨ 8 < k ∨ (k = 8 ∧ dio = false)) : wrongD dio ⟨k, pa, pb, pc, pd, v⟩ nodes = 3 := by
  unfold wrongD
  split
  · rfl
  · unfold wrongP
    rename_i hn
    rw [if_pos]
    rcases h with h | h | h
    · exact .inl h
    · exact .inr (by show (9 : Int) ≤ k; omega)
    · exact absurd h hn

theorem wd_val (hk : (k = 1 ∨ k = 2 ∨ k = 3) ∨ (k = 4 ∨ k = 5) ∨ k = 6 ∨ k = 7 ∨ (k = 8 ∧ dio = true)) : wrongD dio ⟨k, pa, pb, pc, pd, v⟩ nodes = wrongK k.toNat pa pb pc pd v nodes := by
  unfold wrongD
  rw [if_neg (by
    rintro ⟨h1, h2⟩
    simp only at h1
    rcases hk with h | h | h | h | ⟨h, h3⟩
    · omega
    · omega
    · omega
    · omega
    · rw [h2] at h3; exact absurd h3 (by simp))]
  unfold wrongP
  rw [if_neg (by show ¬ (k < 1 ∨ 9 ≤ k); rcases hk with h | h | h | h | ⟨h, _⟩ <;> omega)]

theorem wd_node (hk : (k = 1 ∨ k = 2 ∨ k = 3) ∨ (k = 4 ∨ k = 5) ∨ k = 6 ∨ k = 7 ∨ (k = 8 ∧ dio = true)) (h : (!(isN pa nodes) || !(isN pb nodes) || (kLed k.toNat && !(isN pc nodes && isN pd nodes))) = true) : wrongD dio ⟨k, pa, pb, pc, pd, v⟩ nodes = 4 := by
  rw [wd_val hk]
  unfold wrongK
  rw [if_pos h]

theorem wd_above (hk : (k = 1 ∨ k = 2 ∨ k = 3) ∨ (k = 4 ∨ k = 5) ∨ k = 6 ∨ k = 7 ∨ (k = 8 ∧ dio = true)) (hk' : k = 1 ∨ k = 2 ∨ k = 3 := by assumption) (hA : isN pa nodes = true) (hB : isN pb nodes = true) (hS : signV v ≤ 0) : wrongD dio ⟨k, pa, pb, pc, pd, v⟩ nodes = 5 := by
  rw [wd_val hk]
  rcases hk' with rfl | rfl | rfl <;> simp [wrongK, kLed, kAbove, hA, hB, hS]

theorem wd_form (hk : (k = 1 ∨ k = 2 ∨ k = 3) ∨ (k = 4 ∨ k = 5) ∨ k = 6 ∨ k = 7 ∨ (k = 8 ∧ dio = true)) (hk' : k = 1 ∨ k = 2 ∨ k = 3 := by assumption) (hA : isN pa nodes = true) (hB : isN pb nodes = true) (hS : ¬ signV v ≤ 0) (h : pc ≠ 0 ∨ pd ≠ 0) : wrongD dio ⟨k, pa, pb, pc, pd, v⟩ nodes = 6 := by
  rw [wd_val hk]
  rcases hk' with rfl | rfl | rfl <;> simp [wrongK, kLed, kAbove, hA, hB, hS] <;> (intro e1 e2; rcases h with h | h; exact absurd e1 h; exact absurd e2 h)

theorem wd_fine (hk : (k = 1 ∨ k = 2 ∨ k = 3) ∨ (k = 4 ∨ k = 5) ∨ k = 6 ∨ k = 7 ∨ (k = 8 ∧ dio = true)) (hk' : k = 1 ∨ k = 2 ∨ k = 3 := by assumption) (hA : isN pa nodes = true) (hB : isN pb nodes = true) (hS : ¬ signV v ≤ 0) (hc : pc = 0) (hd : pd = 0) : wrongD dio ⟨k, pa, pb, pc, pd, v⟩ nodes = 0 := by
  rw [wd_val hk]
  subst hc hd
  rcases hk' with rfl | rfl | rfl <;> simp [wrongK, kLed, kAbove, kValued, hA, hB, hS]

theorem wd_plain (hk : (k = 1 ∨ k = 2 ∨ k = 3) ∨ (k = 4 ∨ k = 5) ∨ k = 6 ∨ k = 7 ∨ (k = 8 ∧ dio = true)) (hk' : k = 4 ∨ k = 5 := by assumption) (hA : isN pa nodes = true) (hB : isN pb nodes = true) (hc : pc = 0) (hd : pd = 0) : wrongD dio ⟨k, pa, pb, pc, pd, v⟩ nodes = 0 := by
  rw [wd_val hk]
  subst hc hd
  rcases hk' with rfl | rfl <;> simp [wrongK, kLed, kAbove, kValued, hA, hB]

theorem wd_pform (hk : (k = 1 ∨ k = 2 ∨ k = 3) ∨ (k = 4 ∨ k = 5) ∨ k = 6 ∨ k = 7 ∨ (k = 8 ∧ dio = true)) (hk' : k = 4 ∨ k = 5 := by assumption) (hA : isN pa nodes = true) (hB : isN pb nodes = true) (h : pc ≠ 0 ∨ pd ≠ 0) : wrongD dio ⟨k, pa, pb, pc, pd, v⟩ nodes = 6 := by
  rw [wd_val hk]
  rcases hk' with rfl | rfl <;> simp [wrongK, kLed, kAbove, kValued, hA, hB] <;> (intro e1; rcases h with h | h; exact absurd e1 h; exact h)
theorem wd_leadbad (hk : k = 6 ∨ k = 7) (h : isN pc nodes = false ∨ isN pd nodes = false) : wrongD dio ⟨k, pa, pb, pc, pd, v⟩ nodes = 4 := by
  have h2 : (isN pc nodes && isN pd nodes) = false := by rcases h with h | h <;> simp [h]
  rcases hk with rfl | rfl
  · exact wd_node (.inr (.inr (.inl rfl))) (by rw [h2]; simp [kLed])
  · exact wd_node (.inr (.inr (.inr (.inl rfl)))) (by rw [h2]; simp [kLed])

theorem wd_leadok (hk : k = 6 ∨ k = 7) (hA : isN pa nodes = true) (hB : isN pb nodes = true) (hC : isN pc nodes = true) (hD : isN pd nodes = true) : wrongD dio ⟨k, pa, pb, pc, pd, v⟩ nodes = 0 := by
  rcases hk with rfl | rfl
  · rw [wd_val (.inr (.inr (.inl rfl)))]
    simp [wrongK, kLed, kAbove, kValued, hA, hB, hC, hD]
  · rw [wd_val (.inr (.inr (.inr (.inl rfl))))]
    simp [wrongK, kLed, kAbove, kValued, hA, hB, hC, hD]

theorem wd8_ok (hA : isN pa nodes = true) (hB : isN pb nodes = true) : wrongD true ⟨8, pa, pb, 0, 0, ⟨#[]⟩⟩ nodes = 0 := by
  rw [wd_val (.inr (.inr (.inr (.inr ⟨rfl, rfl⟩))))]
  simp [wrongK, kLed, kAbove, kValued, hA, hB]

theorem wd8_val (hA : isN pa nodes = true) (hB : isN pb nodes = true) (hv : ¬ v.data.toList = []) : wrongD true ⟨8, pa, pb, 0, 0, v⟩ nodes = 6 := by
  have hv' : v.data.toList.isEmpty = false := by
    cases hl : v.data.toList with
    | nil => exact absurd hl hv
    | cons a r => rfl
  rw [wd_val (.inr (.inr (.inr (.inr ⟨rfl, rfl⟩))))]
  unfold wrongK
  rw [hv', hA, hB]
  simp [kLed, kAbove, kValued]

theorem wd8_form (hA : isN pa nodes = true) (hB : isN pb nodes = true) (h : pc ≠ 0 ∨ pd ≠ 0) : wrongD true ⟨8, pa, pb, pc, pd, v⟩ nodes = 6 := by
  have h2 : (pc != 0 || pd != 0) = true := by rcases h with h | h <;> simp [h]
  rw [wd_val (.inr (.inr (.inr (.inr ⟨rfl, rfl⟩))))]
  unfold wrongK
  rw [h2, hA, hB]
  simp [kLed, kAbove, kValued]
end

theorem sgn_sign (v : ByteArray) : decide (sgn (sg (ofQ v.data.toList).1 (ofQ v.data.toList).2.1) ≤ 0) = decide (signV v ≤ 0) := by
  unfold signV signQ sgn sg
  generalize (ofQ v.data.toList).1 = neg
  generalize (ofQ v.data.toList).2.1 = n
  cases neg
  · by_cases hn : n = 0
    · subst hn; simp
    · have h1 : 0 < n := by omega
      have h2 : ¬ ((n : Int) < 0) := by omega
      simp [hn, h1, h2]
  · by_cases hn : n = 0
    · subst hn; simp
    · have : 0 < n := by omega
      simp [this]

theorem isEmpty_str {v : ByteArray} (h : ¬ v.data.toList = []) : v.toList.isEmpty = false := by
  rw [Lib.toList_data]
  cases hl : v.data.toList with
  | nil => exact absurd hl h
  | cons a r => rfl
theorem isEmpty_list {v : ByteArray} (h : ¬ v.data.toList = []) : v.data.toList.isEmpty = false := by
  cases hl : v.data.toList with
  | nil => exact absurd hl h
  | cons a r => rfl

set_option maxHeartbeats 400000 in
theorem F_at (c i : Int) (w : World) : Calls Tryz.prog 46 #[.int .i64 c, .int .i64 i] w fun e w' => e = .returned (.agg #[.int .i64 c, .int .i64 i]) ∧ w.grownBy w' none := by
  go_enter Tryz.func46, Tryz.ntmps46
  go_wp2
  all_goals exact bodyPost_ret (v := .agg #[.int .i64 c, .int .i64 i]) (by simp [results, Tryz.results46, go_sem]) rfl ⟨rfl, by repeat (first | exact gr_refl _ _ | refine gr_alloc ?_ _ | refine gr_drewN ?_ _ | (refine gr_set ?_ _ _ (by simp)))⟩

set_option maxHeartbeats 400000 in
theorem isR_at (x nodes : Int) (g : Nat) (w : World) (hc : w.cell? ⟨g, 0, none⟩ = some (.int .i64 nodes)) :
    Calls Tryz.prog 79 #[.int .i64 x, .pointer (some ⟨g, 0, none⟩)] w fun e w' => e = .returned (.bool (isN x nodes)) ∧ w' = w := by
  by_cases h : 0 ≤ x
  · go_enter Tryz.func79, Tryz.ntmps79
    go_wp2
    go_ret
    refine ⟨?_, rfl⟩
    unfold isN
    rw [show decide (0 ≤ x) = true from by simpa using h]
    simp
  · go_enter Tryz.func79, Tryz.ntmps79
    go_wp2
    go_ret
    refine ⟨?_, rfl⟩
    unfold isN
    rw [show decide (0 ≤ x) = false from by simpa using h]
    rfl
end Go.Proofs.YtfhamfgcjdhmdaaGreatDoor
