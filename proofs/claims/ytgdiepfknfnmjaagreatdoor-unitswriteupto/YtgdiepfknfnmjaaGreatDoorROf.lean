/- voltaicref: onlyDigits, the split at the bar, what Of answers. -/
import Derived.Test.YtgdiepfknfnmjaaGreatDoorRSet
import Derived.Test.YtgdiepfknfnmjaaGreatDoorMFc
import Derived.Shelf.Strings.SlTrimAscii
import Derived.Lib.CutLaws
namespace Go.Proofs.YtgdiepfknfnmjaaGreatDoor
open Go.RowKit
set_option linter.unusedVariables false

theorem contains_digits (c : UInt8) : ([48, 49, 50, 51, 52, 53, 54, 55, 56, 57] : List UInt8).contains c = isD c := by
  rw [Bool.eq_iff_iff]
  simp [isD, ← UInt8.toNat_inj]
  omega

theorem contains_nought (c : UInt8) : ([48] : List UInt8).contains c = true ↔ c = 48 := by simp

theorem dw_nil (p : UInt8 → Bool) : ∀ l : List UInt8, l.dropWhile p = [] ↔ ∀ c ∈ l, p c = true
  | [] => by simp
  | a :: r => by
    rw [List.dropWhile_cons]
    by_cases h : p a = true
    · rw [if_pos h, dw_nil p r]
      simp [h]
    · rw [if_neg h]
      simp [h]

theorem dw_head (p : UInt8 → Bool) : ∀ (l : List UInt8) (x : UInt8) (r : List UInt8), l.dropWhile p = x :: r → p x = false
  | [], x, r, h => by simp at h
  | a :: t, x, r, h => by
    rw [List.dropWhile_cons] at h
    by_cases ha : p a = true
    · rw [if_pos ha] at h
      exact dw_head p t x r h
    · rw [if_neg ha] at h
      obtain ⟨rfl, _⟩ := List.cons.inj h
      simpa using ha

theorem dw_sub (p : UInt8 → Bool) : ∀ (l : List UInt8) (c : UInt8), c ∈ l.dropWhile p → c ∈ l
  | [], c, h => by simp at h
  | a :: t, c, h => by
    rw [List.dropWhile_cons] at h
    by_cases ha : p a = true
    · rw [if_pos ha] at h
      exact List.mem_cons_of_mem _ (dw_sub p t c h)
    · rw [if_neg ha] at h
      exact h

theorem trimS_nil (l cs : List UInt8) : Lib.trimS l cs = [] ↔ ∀ c ∈ l, cs.contains c = true := by
  unfold Lib.trimS Lib.trimLeftS Lib.trimRightS
  rw [dw_nil]
  constructor
  · intro h
    cases he : l.reverse.dropWhile (fun x => cs.contains x) with
    | nil =>
      rw [dw_nil] at he
      exact fun c hc => he c (by simpa using hc)
    | cons x r =>
      exfalso
      have h1 := dw_head _ _ _ _ he
      have h2 := h x (by rw [he]; simp)
      simp only [h1] at h2
      exact absurd h2 (by simp)
  · intro h c hc
    rw [List.mem_reverse] at hc
    exact h c (by simpa using dw_sub _ _ _ hc)

theorem zero_all {l : List UInt8} (hd : ∀ c ∈ l, isD c = true) (h : decL l = 0) : ∀ c ∈ l, ([48] : List UInt8).contains c = true := by
  induction l with
  | nil => intro c hc; simp at hc
  | cons a r ih =>
    have e := dec_append [a] r
    simp only [List.singleton_append] at e
    rw [h] at e
    have h1 : decL [a] * 10 ^ r.length = 0 := by omega
    have h2 : decL r = 0 := by omega
    have h3 : decL [a] = 0 := by
      rcases Nat.mul_eq_zero.1 h1 with h | h
      · exact h
      · have := Nat.pow_pos (n := r.length) (show 0 < 10 by decide); omega
    have h4 := (isD_of hd a (by simp)).1
    intro c hc
    rcases List.mem_cons.1 hc with rfl | hc
    · rw [contains_nought, ← UInt8.toNat_inj]
      simp [decL] at h3
      show c.toNat = 48
      omega
    · exact ih (fun c hc => hd c (by simp [hc])) h2 c hc

theorem all_zero {l : List UInt8} (h : ∀ c ∈ l, ([48] : List UInt8).contains c = true) : decL l = 0 := by
  induction l with
  | nil => rfl
  | cons a r ih =>
    have e := dec_append [a] r
    simp only [List.singleton_append] at e
    have h1 := (contains_nought a).1 (h a (by simp))
    rw [e, ih (fun c hc => h c (by simp [hc])), h1]
    have : decL [(48 : UInt8)] = 0 := by decide
    rw [this]
    simp

theorem allD_pos {s : ByteArray} (h : allD s.data.toList = true) : 0 < s.size := by
  rw [Lib.size_eq]
  unfold allD at h
  cases hl : s.data.toList with
  | nil => rw [hl] at h; simp at h
  | cons a r => simp

theorem gr_of_below {w w' : World} (h : Below w.heap.size w w') : w.grownBy w' none := by
  obtain ⟨a, b, c, d, e⟩ := h
  exact ⟨a, b, c, d, fun k hk _ => e k hk⟩

theorem empty_of {l : List UInt8} (h : l = []) : (⟨l.toArray⟩ : ByteArray) = ⟨#[]⟩ := by rw [h]

theorem isEmpty_of {l : List UInt8} (h : l ≠ []) : (⟨l.toArray⟩ : ByteArray).toList.isEmpty = false := by
  rw [Lib.toList_data]
  cases l with
  | nil => exact absurd rfl h
  | cons a r => rfl

set_option maxHeartbeats 1000000 in
theorem onlyDigits_at (s : ByteArray) (w : World) (hs : s.size ≤ 9223372036854775807) :
    Calls Tryz.prog 48 #[.string s] w fun e w' => e = .returned (.bool (allD s.data.toList)) ∧ w.grownBy w' none := by
  by_cases h0 : s.data.toList = []
  · have he : s = ⟨#[]⟩ := by
      rw [← Lib.mk_data s, h0]
    subst he
    go_enter Tryz.func48, Tryz.ntmps48
    go_wp2
    go_ret
    exact ⟨rfl, gr_refl _ _⟩
  · have hemp : s.toList.isEmpty = false := by
      rw [Lib.toList_data]
      cases h : s.data.toList with
      | nil => exact absurd h h0
      | cons a r => rfl
    have hcon := Any.strings_Trim_laid Tryz.lays160 (by kernel_rfl) s ⟨#[48, 49, 50, 51, 52, 53, 54, 55, 56, 57]⟩ w hs (by decide) (ascii_of_all (by decide))
    change Calls Tryz.prog 49 _ _ (fun e w' => e = .returned (.string ⟨(Lib.trimS s.data.toList [48, 49, 50, 51, 52, 53, 54, 55, 56, 57]).toArray⟩) ∧ Below w.heap.size w w') at hcon
    have hn := trimS_nil s.data.toList [48, 49, 50, 51, 52, 53, 54, 55, 56, 57]
    have hall : allD s.data.toList = s.data.toList.all isD := by
      unfold allD
      cases h : s.data.toList with
      | nil => exact absurd h h0
      | cons a r => rfl
    by_cases ha : s.data.toList.all isD = true
    · have hr := empty_of (hn.2 (fun c hc => by rw [contains_digits]; exact List.all_eq_true.1 ha c hc))
      rw [hr] at hcon
      rw [hall, ha]
      have HCON := hide hcon
      clear hcon hn hr ha hall
      go_enter Tryz.func48, Tryz.ntmps48
      go_wp2_with fail
      refine HCON.out.mono ?_
      rintro e w1 ⟨rfl, hB⟩
      have HB := hide (gr_of_below hB)
      clear hB
      go_wp2
      go_ret
      exact ⟨rfl, HB.out⟩
    · have ha' : s.data.toList.all isD = false := by simpa using ha
      have hr := isEmpty_of (fun e => ha (List.all_eq_true.2 (fun c hc => by rw [← contains_digits]; exact hn.1 e c hc)))
      rw [hall, ha']
      generalize (⟨(Lib.trimS s.data.toList [48, 49, 50, 51, 52, 53, 54, 55, 56, 57]).toArray⟩ : ByteArray) = r at hcon hr
      have HCON := hide hcon
      clear hcon hn ha hall ha'
      go_enter Tryz.func48, Tryz.ntmps48
      go_wp2_with fail
      refine HCON.out.mono ?_
      rintro e w1 ⟨rfl, hB⟩
      have HB := hide (gr_of_below hB)
      clear hB
      go_wp2
      go_ret
      exact ⟨rfl, HB.out⟩

/-- 'strings.Trim(s, "0")', asked whether nothing is left. -/
theorem trimZero_at (s : ByteArray) (w : World) (hs : s.size ≤ 9223372036854775807) :
    Calls Tryz.prog 49 #[.string s, .string ⟨#[48]⟩] w fun e w' => ∃ r : ByteArray, e = .returned (.string r) ∧ (((∀ c ∈ s.data.toList, ([48] : List UInt8).contains c = true) → r = ⟨#[]⟩) ∧ ((¬ ∀ c ∈ s.data.toList, ([48] : List UInt8).contains c = true) → r.toList.isEmpty = false)) ∧ w.grownBy w' none := by
  have hcon := Any.strings_Trim_laid Tryz.lays160 (by kernel_rfl) s ⟨#[48]⟩ w hs (by decide) (ascii_of_all (by decide))
  change Calls Tryz.prog 49 _ _ (fun e w' => e = .returned (.string ⟨(Lib.trimS s.data.toList [48]).toArray⟩) ∧ Below w.heap.size w w') at hcon
  have hn := trimS_nil s.data.toList [48]
  refine hcon.mono ?_
  rintro e w1 ⟨rfl, hB⟩
  exact ⟨_, rfl, ⟨fun h => empty_of (hn.2 h), fun h => isEmpty_of (fun e => h (hn.1 e))⟩, gr_of_below hB⟩

/-- What the split at the bar answers. -/
def SplitE (w : World) (t : ByteArray) (e : Ending) (w' : World) : Prop :=
  w.grownBy w' none ∧ ∃ A : ByteArray, A.data.toList = (Lib.cut t.data.toList [47]).1 ∧ w'.cell? ⟨w.heap.size, 0, none⟩ = some (.string A) ∧
    (((Lib.cut t.data.toList [47]).2.2 = false ∧ ∃ cap, 1 ≤ cap ∧ cap ≤ 2 ∧ e = .returned (.slice (some ⟨w.heap.size, 0, none⟩) 1 cap)) ∨
     ((Lib.cut t.data.toList [47]).2.2 = true ∧ ∃ B : ByteArray, B.data.toList = (Lib.cut t.data.toList [47]).2.1 ∧ w'.cell? ⟨w.heap.size, 1, none⟩ = some (.string B) ∧ e = .returned (.slice (some ⟨w.heap.size, 0, none⟩) 2 2)))

theorem take_bytes (t : ByteArray) (i : Nat) (h : i ≤ t.size) : (t.extract 0 i).data.toList = t.data.toList.take i := by
  rw [ByteArray.data_extract, Array.toList_extract]
  simp

theorem split_at (t : ByteArray) (m : Int) (w : World) (ht : t.size ≤ 600000000) (hm : w.cell? ⟨5, 0, none⟩ = some (.int .i64 m)) :
    Calls Tryz.prog 47 #[.string t, .string ⟨#[47]⟩, .int .i64 2] w fun e w' => SplitE w t e w' := by
  refine (Tryz.strings_SplitN t ⟨#[47]⟩ 2 m w (by omega) hm (by decide) (by decide) (by decide)).mono ?_
  rintro e w1 ⟨rfl, rfl⟩
  refine ⟨gr_alloc (gr_refl _ _) _, ?_⟩
  rcases Lib.indexB_cases t ⟨#[47]⟩ with hi | ⟨i, hi, hle⟩
  · rw [Lib.splitB_miss _ _ _ _ hi]
    have hc : Lib.cut t.data.toList [47] = (t.data.toList, [], false) := by
      unfold Lib.cut
      have : Lib.index t.data.toList [47] = -1 := hi
      rw [this, if_neg (by decide)]
    rw [hc]
    refine ⟨t, rfl, ?_, .inl ⟨rfl, min 2 (t.size + 1), by omega, by omega, rfl⟩⟩
    rw [World.cell?_alloc_at _ _ _ _ rfl]
    simp [Lib.cellsOf]
  · have hsz : (⟨#[47]⟩ : ByteArray).size = 1 := rfl
    rw [hsz] at hle
    have hmin : min 2 (t.size + 1) = 2 := by omega
    rw [hmin]
    rw [show (2 - 1 : Nat) = 0 + 1 from rfl, Lib.splitB_hit _ _ _ _ i hi, Lib.splitB_zero, hsz, Nat.add_zero]
    have hc : Lib.cut t.data.toList [47] = (t.data.toList.take i, t.data.toList.drop (i + 1), true) := by
      unfold Lib.cut
      have : Lib.index t.data.toList [47] = (i : Int) := hi
      rw [this, if_pos (by omega)]
      simp
    rw [hc]
    refine ⟨t.extract 0 i, take_bytes t i (by omega), ?_, .inr ⟨rfl, t.extract (i + 1) t.size, (cut_bytes t (i + 1) (by omega)).1, ?_, rfl⟩⟩
    · rw [World.cell?_alloc_at _ _ _ _ rfl]
      simp [Lib.cellsOf]
    · rw [World.cell?_alloc_at _ _ _ _ rfl]
      simp [Lib.cellsOf]

theorem prefix_one {s : ByteArray} (h : Lib.hasPrefix s.data.toList [45] = true) : 1 ≤ s.size ∧ Lib.trimPrefix s.data.toList [45] = (s.extract 1 s.size).data.toList := by
  have h1 : 1 ≤ s.size := by
    rw [Lib.size_eq]
    unfold Lib.hasPrefix at h
    cases hl : s.data.toList with
    | nil => rw [hl] at h; simp at h
    | cons a r => simp
  refine ⟨h1, ?_⟩
  unfold Lib.trimPrefix
  rw [if_pos h, (cut_bytes s 1 h1).1]
  rfl

theorem spec_one {s : List UInt8} {ng : Bool} {T A : List UInt8} (h1 : Lib.hasPrefix s [45] = ng) (h2 : Lib.trimPrefix s [45] = T) (h3 : A = (Lib.cut T [47]).1) (h4 : (Lib.cut T [47]).2.2 = false) : ofQ s = if allD A then lowQ ng (decL A) 1 else (false, 0, 1) := by
  have e : downOf T = [49] := by unfold downOf; rw [h4]; rfl
  unfold ofQ
  rw [h1, h2, e, h3]
  have e1 : allD [49] = true := by decide
  have e2 : decL [49] = 1 := by decide
  rw [e1, e2, Bool.and_true]

theorem spec_two {s : List UInt8} {ng : Bool} {T A B : List UInt8} (h1 : Lib.hasPrefix s [45] = ng) (h2 : Lib.trimPrefix s [45] = T) (h3 : A = (Lib.cut T [47]).1) (h5 : B = (Lib.cut T [47]).2.1) (h4 : (Lib.cut T [47]).2.2 = true) : ofQ s = if allD A && allD B then lowQ ng (decL A) (decL B) else (false, 0, 1) := by
  have e : downOf T = B := by unfold downOf; rw [h4, h5]; rfl
  unfold ofQ
  rw [h1, h2, e, h3]

theorem newRat (w : World) : Box (w.alloc (.cells #[.bool false, .slice none 0 0, .bool false, .slice none 0 0] 60)) w.heap.size 0 false (.slice none 0 0) ∧ Box (w.alloc (.cells #[.bool false, .slice none 0 0, .bool false, .slice none 0 0] 60)) w.heap.size 2 false (.slice none 0 0) :=
  ⟨⟨by simp, by simp, by simp, by simp⟩, ⟨by simp, by simp, by simp, by simp⟩⟩

/-- What Of answers: a fraction in lowest terms, or the fraction that is nothing. -/
def RefE (w : World) (l : List UInt8) (L : Nat) (e : Ending) (w' : World) : Prop :=
  ∃ b, e = .returned (.pointer (some ⟨b, 0, none⟩)) ∧ w.grownBy w' none ∧ w.heap.size ≤ b ∧ IntAt w' b 0 (sg (ofQ l).1 (ofQ l).2.1) L ∧
    (RatAt w' b (sg (ofQ l).1 (ofQ l).2.1) (ofQ l).2.2 L ∨ (ofQ l = (false, 0, 1) ∧ IntAt w' b 2 0 L))

theorem ref_none {w w1 : World} {l : List UInt8} {L : Nat} (h : ofQ l = (false, 0, 1)) (hg : w.grownBy w1 none) :
    RefE w l L (.returned (.pointer (some ⟨w1.heap.size, 0, none⟩))) (w1.alloc (.cells #[.bool false, .slice none 0 0, .bool false, .slice none 0 0] 60)) := by
  have hz : ∀ off, Box (w1.alloc (.cells #[.bool false, .slice none 0 0, .bool false, .slice none 0 0] 60)) w1.heap.size off false (.slice none 0 0) → IntAt (w1.alloc (.cells #[.bool false, .slice none 0 0, .bool false, .slice none 0 0] 60)) w1.heap.size off 0 L := by
    intro off hB
    exact ⟨false, .slice none 0 0, hB, (num_nil _).mono (Nat.zero_le _), by simp, by simp [blockOf]⟩
  refine ⟨_, rfl, gr_alloc hg _, hg.size, ?_, .inr ⟨h, hz 2 (newRat w1).2⟩⟩
  rw [h]
  exact hz 0 (newRat w1).1

theorem low_nat (n d : Nat) (hd : 0 < d) (ng : Bool) : sg (lowQ ng n d).1 (lowQ ng n d).2.1 = (if ng then - low1 (n : Int) d else low1 (n : Int) d) ∧ (lowQ ng n d).2.2 = low2 (n : Int) d := by
  unfold lowQ low1 low2
  rw [Int.natAbs_natCast]
  by_cases hn : n = 0
  · subst hn
    rw [if_pos (.inl rfl)]
    simp [sg, Nat.div_self hd]
  · rw [if_neg (by omega)]
    cases ng <;> simp [sg]

theorem ref_pos {w w5 : World} {l : List UInt8} {n d nz L : Nat} (h : ofQ l = lowQ false n d) (hd : 0 < d) (hr : RatAt w5 nz (low1 (n : Int) d) (low2 (n : Int) d) L) (hg : w.grownBy w5 none) (hn : w.heap.size ≤ nz) {L' : Nat} (hl : L ≤ L') :
    RefE w l L' (.returned (.pointer (some ⟨nz, 0, none⟩))) w5 := by
  obtain ⟨e1, e2⟩ := low_nat n d hd false
  have e3 : sg (ofQ l).1 (ofQ l).2.1 = low1 (n : Int) d := by rw [h]; simpa using e1
  have e4 : (ofQ l).2.2 = low2 (n : Int) d := by rw [h]; exact e2
  refine ⟨nz, rfl, hg, hn, ?_, .inl ?_⟩
  · rw [e3]; exact hr.1.mono hl
  · rw [e3, e4]; exact hr.mono hl

theorem ref_neg {w w5 : World} {l : List UInt8} {n d nz L : Nat} (h : ofQ l = lowQ true n d) (hd : 0 < d) (hr : RatAt w5 nz (- low1 (n : Int) d) (low2 (n : Int) d) L) (hg : w.grownBy w5 none) (hn : w.heap.size ≤ nz) {L' : Nat} (hl : L ≤ L') :
    RefE w l L' (.returned (.pointer (some ⟨nz, 0, none⟩))) w5 := by
  obtain ⟨e1, e2⟩ := low_nat n d hd true
  have e3 : sg (ofQ l).1 (ofQ l).2.1 = - low1 (n : Int) d := by rw [h]; simpa using e1
  have e4 : (ofQ l).2.2 = low2 (n : Int) d := by rw [h]; exact e2
  refine ⟨nz, rfl, hg, hn, ?_, .inl ?_⟩
  · rw [e3]; exact hr.1.mono hl
  · rw [e3, e4]; exact hr.mono hl
end Go.Proofs.YtgdiepfknfnmjaaGreatDoor
