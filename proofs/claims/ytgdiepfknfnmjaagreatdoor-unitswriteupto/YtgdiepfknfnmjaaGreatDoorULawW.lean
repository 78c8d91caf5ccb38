/- voltaiclaw.UnitsWrite. -/
import Derived.Test.YtgdiepfknfnmjaaGreatDoorMW2
import Derived.Test.YtgdiepfknfnmjaaGreatDoorUSho
import Derived.Test.YtgdiepfknfnmjaaGreatDoorMW1
import Derived.Test.YtgdiepfknfnmjaaGreatDoorMU3
namespace Go.Proofs.YtgdiepfknfnmjaaGreatDoor
open Go.RowKit Go.Lib
set_option linter.unusedVariables false
set_option linter.unusedSimpArgs false

theorem strip_exists (f : Nat) (hf : 2 ≤ f) : ∀ d, 0 < d → ∃ k e, d = f ^ k * e ∧ e % f ≠ 0 ∧ 0 < e := by
  intro d
  induction d using Nat.strongRecOn with
  | _ d ih =>
    intro hd
    by_cases h : d % f = 0
    · have h1 : d / f < d := Nat.div_lt_self hd (by omega)
      have h2 : 0 < d / f := Nat.div_pos (Nat.le_of_dvd hd (Nat.dvd_of_mod_eq_zero h)) (by omega)
      obtain ⟨k, e, e1, e2, e3⟩ := ih (d / f) h1 h2
      refine ⟨k + 1, e, ?_, e2, e3⟩
      rw [Nat.pow_succ, Nat.mul_comm (f ^ k) f, Nat.mul_assoc, ← e1]
      exact (Nat.mul_div_cancel' (Nat.dvd_of_mod_eq_zero h)).symm
    · exact ⟨0, d, by rw [Nat.pow_zero, Nat.one_mul], h, hd⟩

theorem ten_ne' : (10 : Rat) ≠ 0 := by decide +kernel

theorem back_value (q : Rat) (p : Int) (P N : Nat) (h : absR q * (10 : Rat) ^ (-p) * (10 : Rat) ^ (P : Int) = ((N : Int) : Rat)) : ((sgq (decide (q < 0)) N : Int) : Rat) * (10 : Rat) ^ (p - P) = q := by
  have h1 : ((N : Int) : Rat) * (10 : Rat) ^ (p - P) = absR q := by
    rw [← h, Rat.mul_assoc, Rat.mul_assoc, ← Rat.zpow_add ten_ne', ← Rat.zpow_add ten_ne', show -p + ((P : Int) + (p - (P : Int))) = 0 by omega, Rat.zpow_zero, Rat.mul_one]
  unfold sgq
  by_cases hq : q < 0
  · rw [decide_eq_true hq, if_pos rfl, Rat.intCast_neg, Rat.neg_mul, h1]
    unfold absR
    rw [if_pos hq, Rat.neg_neg]
  · rw [decide_eq_false hq]
    show ((N : Int) : Rat) * _ = q
    rw [h1]
    unfold absR
    rw [if_neg hq]

theorem abs_nonneg (q : Rat) : 0 ≤ (absR q).num := by
  unfold absR
  split
  · rename_i h
    have : q.num < 0 := by rw [Rat.lt_iff] at h; simpa using h
    show 0 ≤ -q.num
    omega
  · rename_i h
    have : ¬ q.num < 0 := by rw [Rat.lt_iff] at h; simpa using h
    omega

/-- What is printed, read: the number itself. -/
theorem print_back (q : Rat) (u t : List UInt8) (hu : unitR u = some u) (h : printR q u = (t, 0)) (hl : t.length ≤ 4000) : parseR t = (qtext q, u, 0, 0) := by
  obtain ⟨i, hi⟩ : ∃ i, i = pfi (absR q) := ⟨_, rfl⟩
  have hi10 : i < 10 := by rw [hi]; exact pfi_lt _
  obtain ⟨x, hx⟩ : ∃ x, x = absR q * (10 : Rat) ^ (-pwr i) := ⟨_, rfl⟩
  obtain ⟨n, hn⟩ : ∃ n, n = rN x := ⟨_, rfl⟩
  obtain ⟨d, hd⟩ : ∃ d, d = x.den := ⟨_, rfl⟩
  have hd0 : 0 < d := by rw [hd]; exact x.den_pos
  have hdx : d = (absR q * (10 : Rat) ^ (-pwr (pfi (absR q)))).den := by rw [hd, hx, hi]
  have hnx : n = rN (absR q * (10 : Rat) ^ (-pwr (pfi (absR q)))) := by rw [hn, hx, hi]
  obtain ⟨a, e, e1, e2, e3⟩ := strip_exists 2 (by decide) d hd0
  obtain ⟨b, g, g1, g2, g3⟩ := strip_exists 5 (by decide) e e3
  have hdg : d = 2 ^ a * 5 ^ b * g := by rw [e1, g1, Nat.mul_assoc]
  by_cases hg : g = 1
  · subst hg
    rw [Nat.mul_one] at hdg
    have hp := print_ends q u hu n d a b hnx hdx hdg
    have hcop : Nat.gcd n d = 1 := by rw [hn, hd]; exact x.reduced
    obtain ⟨h0, _⟩ := ends_at hcop hdg
    rw [h] at hp
    by_cases hlen : (decT n d (max a b)).length ≤ 4000
    · rw [if_pos hlen, ← hi] at hp
      have ht : t = (if q < 0 then [45] else []) ++ decT n d (max a b) ++ (ptx i ++ u) := congrArg Prod.fst hp
      have hs : (if q < 0 then ([45] : List UInt8) else []) = (if decide (q < 0) = true then [45] else []) := by simp
      rw [ht, hs]
      have hl2 : ((if decide (q < 0) = true then ([45] : List UInt8) else []) ++ decT n d (max a b) ++ (ptx i ++ u)).length ≤ 4000 := by rw [← hs, ← ht]; exact hl
      rw [parse_dec (decide (q < 0)) n d (max a b) i u hi10 hu hd0 h0 hl2]
      have hwh : rN x * 10 ^ (max a b) % x.den = 0 := by
        rw [← hn, ← hd, Nat.mul_mod, ← Nat.mod_mod n, ← Nat.mul_mod]
        exact h0
      have hxn : 0 ≤ x.num := by
        rw [hx]
        have k1 : 0 ≤ absR q := Rat.num_nonneg.1 (abs_nonneg q)
        exact Rat.num_nonneg.2 (Rat.mul_nonneg k1 (Rat.le_of_lt (Rat.zpow_pos (by decide +kernel))))
      have hsc := scaled x hxn (max a b) hwh
      rw [← hn, ← hd, hx] at hsc
      rw [back_value q (pwr i) (max a b) (n * 10 ^ (max a b) / d) hsc]
    · rw [if_neg hlen] at hp
      exact absurd (congrArg Prod.snd hp) (by simp)
  · have hg2 : g % 2 ≠ 0 := by
      intro hh
      apply e2
      rw [g1, Nat.mul_mod, hh, Nat.mul_zero]
    have hp := print_never q u hu d (2 ^ a * 5 ^ b) g hdx hdg hg2 g2 hg
    rw [h] at hp
    exact absurd (congrArg Prod.snd hp) (by simp)

theorem show_any (s u : ByteArray) (m : Int) (w : World) (hs : s.size ≤ 1048576) (hus : u.size ≤ 1048576) (hml : w.cell? ⟨5, 0, none⟩ = some (.int .i64 m)) (hpm : PM w) (hum : UMB w) :
    Calls Tryz.prog 9 #[.string s, .string u] w fun e w' => e = .returned (priV (printR (ofR s.data.toList) u.data.toList)) ∧ w.grownBy w' none := by
  by_cases hu : unitR u.data.toList = some u.data.toList
  · exact show_q s u m w hs hus hu hml hpm hum
  · have e : printR (ofR s.data.toList) u.data.toList = ([], 3) := by
      unfold printR
      rw [if_pos hu]
    rw [e]
    exact show_bad s u w hus hu hum

theorem print_any (s u : ByteArray) (m : Int) (w : World) (hs : s.size ≤ 5000000) (hT : PTabs w m) :
    Calls Tryz.prog 8 #[.string s, .string u] w fun e w' => e = .returned (priV (printR (ofR s.data.toList) u.data.toList)) ∧ w.grownBy w' none := by
  by_cases hu : unitR u.data.toList = some u.data.toList
  · exact print_good s u m w hs hT hu
  · have e : printR (ofR s.data.toList) u.data.toList = ([], 3) := by
      unfold printR
      rw [if_pos hu]
    rw [e]
    exact print_bad s u w hu

theorem rOfT (s : ByteArray) (m : Int) (w : World) (hs : s.size ≤ 1048576) (hml : w.cell? ⟨5, 0, none⟩ = some (.int .i64 m)) :
    Calls Tryz.prog 11 #[.string s] w fun e w' => ∃ b, e = .returned (.pointer (some ⟨b, 0, none⟩)) ∧ w.grownBy w' none ∧ ∀ wx, w'.grownBy wx none → Calls Tryz.prog 10 #[.pointer (some ⟨b, 0, none⟩)] wx fun e w'' => e = .returned (.string ⟨(qtext (ofR s.data.toList)).toArray⟩) ∧ wx.grownBy w'' none := by
  refine (rOf_at s m w (by omega) hml).mono ?_
  rintro e w' ⟨b, rfl, g, h⟩
  refine ⟨b, rfl, g, fun wx hx => ?_⟩
  rcases h with h | ⟨h, k⟩
  · exact rT_at b _ _ wx (h.keep0 hx) (by omega)
  · rw [h]
    exact rT_nil b _ wx (k.keep0 hx) (by omega)


theorem print_code (q : Rat) (u : List UInt8) : (printR q u).2 = 0 ∨ (printR q u).2 = 3 ∨ (printR q u).2 = 6 := by
  unfold printR
  split
  · exact .inr (.inl rfl)
  · split
    · exact .inr (.inr rfl)
    · exact .inl rfl

theorem print_len (q : Rat) (u : List UInt8) : (printR q u).1.length ≤ 4010 + u.length := by
  unfold printR
  split
  · simp
  · split
    · simp
    · rename_i h1 h2
      have hp := ptx_len (pfi (absR q)) (pfi_lt _)
      have hd : ∀ n d, (decAns n d 4000).1.length ≤ 4000 := by
        intro n d
        show ((if _ then _ else _ : List UInt8 × Bool).1.length ≤ 4000)
        split
        · simp
        · rename_i hh
          simp only [not_or] at hh
          exact Nat.le_of_not_lt hh.2
      have hs : (if q < 0 then ([45] : List UInt8) else []).length ≤ 1 := by split <;> simp
      have hd2 := hd (rN (q * (10 : Rat) ^ (-pwr (pfi (absR q))))) (q * (10 : Rat) ^ (-pwr (pfi (absR q)))).den
      simp only [List.length_append]
      omega

theorem print_unit {q : Rat} {u : List UInt8} (h : (printR q u).2 = 0) : unitR u = some u := by
  unfold printR at h
  split at h
  · simp at h
  · rename_i hh
    exact Decidable.of_not_not hh

set_option maxHeartbeats 4000000 in
theorem unitsWrite_any (s u : ByteArray) (m : Int) (w : World) (hs : s.size ≤ 1048576) (hus : u.size ≤ 1048576) (hT : PTabs w m) (hpm : PM w) (hum : UMB w) :
    Calls Tryz.prog 4 #[.string s, .string u] w fun e w' => e = .returned (.bool true) ∧ w.grownBy w' none := by
  have htb := print_len (ofR s.data.toList) u.data.toList
  have hul : u.data.toList.length ≤ 1048576 := by rw [← Lib.size_eq]; exact hus
  have HT := hide hT
  have HPM := hide hpm
  have HUM := hide hum
  clear hT hpm hum
  go_enter Tryz.func4, Tryz.ntmps4
  go_wp2_with fail
  refine (speaks_at m _ HT.out).mono ?_
  rintro e w1 ⟨rfl, g1⟩
  have G1 := hide g1
  clear g1
  go_wp2_with fail
  refine (print_any s u m _ (by omega) (HT.out.keep0 G1.out)).mono ?_
  rintro e w2 ⟨rfl, g2⟩
  have G2 := hide (gr_none G1.out g2)
  clear g2
  obtain ⟨t, c, hr⟩ : ∃ t c, printR (ofR s.data.toList) u.data.toList = (t, c) := ⟨_, _, rfl⟩
  have hcode := print_code (ofR s.data.toList) u.data.toList
  have HR := hide hr
  rw [hr] at hcode htb
  simp only at hcode htb
  rw [hr, priV]
  clear hr
  go_wp2_with fail
  refine (show_any s u m _ hs hus (HT.out.keep0 G2.out).l (HPM.out.keep0 G2.out) (HUM.out.keep0 G2.out)).mono ?_
  rintro e w3 ⟨rfl, g3⟩
  have G3 := hide (gr_none G2.out g3)
  clear g3
  rw [HR.out, priV]
  obtain ⟨TB, hTB⟩ : ∃ x : ByteArray, x = ⟨t.toArray⟩ := ⟨_, rfl⟩
  have hTz : TB.size = t.length := by rw [hTB, size_of]
  have hTl : Hid (TB.data.toList = t) := by show _ = _; rw [hTB]
  rw [← hTB]
  clear hTB
  by_cases hc0 : c = 0
  · subst hc0
    have hu := print_unit (q := ofR s.data.toList) (u := u.data.toList) (by rw [HR.out])
    have HU := hide hu
    clear hu hcode
    go_wp2_with fail
    refine (parse_at TB m _ (by omega) (HT.out.keep0 G3.out)).mono ?_
    rintro e w4 ⟨rfl, g4⟩
    have G4 := hide (gr_none G3.out g4)
    clear g4
    rw [hTl.out]
    by_cases hlen : 4000 < t.length
    · have hp : parseR t = ([], [], 2, 0) := by rw [parseR, if_pos hlen]
      have hlen' : (4000 : Int) < (TB.size : Int) := by omega
      rw [hp, parV]
      clear hp
      go_wp2
      go_ret
      exact ⟨rfl, gr_alloc G4.out _⟩
    · have hp : parseR t = (qtext (ofR s.data.toList), u.data.toList, 0, 0) := print_back _ _ _ HU.out HR.out (by omega)
      have hlen' : ¬ (4000 : Int) < (TB.size : Int) := by omega
      rw [hp, parV]
      clear hp
      obtain ⟨W, hW⟩ : ∃ W, W = w4.alloc (Obj.cells #[.int .i64 0, .int .i64 0] 26) := ⟨_, rfl⟩
      have GW : Hid (w4.grownBy W none) := by rw [hW]; exact gr_alloc (gr_refl _ _) _
      have FC : Hid (∀ wx, W.grownBy wx none → wx.cell? ⟨w4.heap.size, 0, none⟩ = some (.int .i64 0)) := by
        intro wx hg
        rw [hW] at hg
        exact (flt_cells hg).1
      go_wp2_with fail
      rw [← hW]
      clear hW
      refine (rOfT s m _ hs (HT.out.keep0 (gr_none G4.out GW.out)).l).mono ?_
      rintro e w5 ⟨b, rfl, g5, hT5⟩
      have HT5 := hide hT5
      have G5 := hide g5
      clear g5 hT5
      go_wp2_with fail
      refine (HT5.out _ (gr_refl _ _)).mono ?_
      rintro e w6 ⟨rfl, g6⟩
      have c0 := FC.out w6 (gr_none G5.out g6)
      have G6 := hide (gr_none (gr_none (gr_none G4.out GW.out) G5.out) g6)
      clear g6
      rw [show (⟨u.data.toList.toArray⟩ : ByteArray) = u from rfl]
      go_wp2
      go_ret
      exact ⟨rfl, G6.out⟩
  · have hc0' : (c == 0) = false := beq_eq_false_iff_ne.2 hc0
    go_wp2
    go_ret
    exact ⟨rfl, G3.out⟩
end Go.Proofs.YtgdiepfknfnmjaaGreatDoor
