/- Orders and signs: at both ends, and at a place. -/
import Derived.Test.YtklkpkkjakllfaaGreatDoorXKa
set_option linter.unusedVariables false
set_option linter.unusedSimpArgs false
namespace Go.Proofs.YtklkpkkjakllfaaGreatDoor.K
structure Vl (c : Rat) (o : Po → Int) (q : Po → Rat) : Prop where
  q0 : q zr = 0
  qn : ∀ x, Fs x → x ≠ zr → q x ≠ 0
  sm : ∀ x k, Fs x → k ≠ 0 → o (sm k x) = o x ∧ q (K.sm k x) = k * q x
  lt : ∀ x y, Fs x → Fs y → x ≠ zr → y ≠ zr → o x < o y → o (ad x y) = o x ∧ q (ad x y) = q x
  eq : ∀ x y, Fs x → Fs y → x ≠ zr → y ≠ zr → o x = o y → q x + q y ≠ 0 → o (ad x y) = o x ∧ q (ad x y) = q x + q y
  ln : ∀ x, Fs x → x ≠ zr → (o (ln 1 c x) = o x + 1 ∨ o (K.ln 1 c x) = o x - 1) ∧ q (K.ln 1 c x) = q x
def ep (o : Po → Int) (q : Po → Rat) (x y : Po) : Int := if (o x + o y) % 2 = 1 then sgn1 (q x) * sgn1 (q y) else 0
theorem ad_comm (x y : Po) : ad x y = ad y x := by funext i; simp only [ad]; grind
section
variable {c : Rat} {o : Po → Int} {q : Po → Rat}
theorem ep_comm (x y : Po) : ep o q x y = ep o q y x := by
  unfold ep
  rw [Int.add_comm, Int.mul_comm]
theorem Vl.nil (V : Vl c o q) (x : Po) : ep o q x zr = 0 := by
  unfold ep
  rw [V.q0, sgn_zero, Int.mul_zero, ite_self]
theorem Vl.esm (V : Vl c o q) (x y : Po) (k : Rat) (hy : Fs y) : ep o q x (K.sm k y) = sgn1 k * ep o q x y := by
  by_cases hk : k = 0
  · have : K.sm k y = zr := by funext i; simp only [K.sm, zr]; rw [hk, Rat.zero_mul]
    rw [this, V.nil, hk, sgn_zero, Int.zero_mul]
  · obtain ⟨h1, h2⟩ := V.sm y k hy hk
    unfold ep
    rw [h1, h2, sgn_mul]
    split
    · rw [← Int.mul_assoc, Int.mul_comm (sgn1 (q x)), Int.mul_assoc]
    · rw [Int.mul_zero]
theorem Vl.esml (V : Vl c o q) (x y : Po) (k : Rat) (hx : Fs x) : ep o q (K.sm k x) y = sgn1 k * ep o q x y := by
  rw [ep_comm, V.esm y x k hx, ep_comm]
theorem ep_even {x y : Po} (h : o x = o y) : ep o q x y = 0 := by
  unfold ep
  rw [h, if_neg (by omega)]
theorem ep_cong {x x' y : Po} (h : o x = o x') (k : q x = q x') : ep o q x y = ep o q x' y := by
  unfold ep
  rw [h, k]
theorem Vl.tri (V : Vl c o q) (u z : Po) (hu : Fs u) (hz : Fs z) : ep o q (ad u z) u + ep o q (ad u z) z = ep o q u z := by
  by_cases hu0 : u = zr
  · rw [hu0, zr_ad, V.nil, ep_comm zr z, V.nil, ep_even rfl]; rfl
  · by_cases hz0 : z = zr
    · rw [hz0, ad_zr, V.nil, ep_even rfl]; rfl
    · rcases Int.lt_trichotomy (o u) (o z) with h | h | h
      · obtain ⟨h1, h2⟩ := V.lt u z hu hz hu0 hz0 h
        rw [ep_cong h1 h2, ep_cong h1 h2, ep_even rfl]
        omega
      · rw [ep_even h]
        by_cases k : q u + q z = 0
        · have e : q z = -q u := by grind
          unfold ep
          rw [h, e, sgn_neg]
          split
          · rw [Int.mul_neg]; omega
          · rfl
        · obtain ⟨h1, h2⟩ := V.eq u z hu hz hu0 hz0 h k
          rw [ep_even h1, ep_even (h1.trans h)]
          rfl
      · rw [ad_comm]
        obtain ⟨h1, h2⟩ := V.lt z u hz hu hz0 hu0 h
        rw [ep_cong h1 h2, ep_cong h1 h2, ep_even (x := z) rfl, ep_comm z u]
        omega
theorem Vl.odd (V : Vl c o q) {x y : Po} (h : (o x + o y) % 2 = 1) : ep o q x y = sgn1 (q x) * sgn1 (q y) := by
  unfold ep
  rw [if_pos h]
theorem Vl.lnl (V : Vl c o q) (x y : Po) (hx : Fs x) (hx0 : x ≠ zr) (h : (o x + o y) % 2 = 0) : ep o q (K.ln 1 c x) y = sgn1 (q x) * sgn1 (q y) := by
  obtain ⟨h1, h2⟩ := V.ln x hx hx0
  rw [V.odd (by omega), h2]
theorem Vl.lnl0 (V : Vl c o q) (x y : Po) (hx : Fs x) (hx0 : x ≠ zr) (h : (o x + o y) % 2 = 1) : ep o q (K.ln 1 c x) y = 0 := by
  obtain ⟨h1, h2⟩ := V.ln x hx hx0
  unfold ep
  rw [if_neg (by omega)]
theorem Vl.ln2 (V : Vl c o q) (x y : Po) (hx : Fs x) (hx0 : x ≠ zr) : ep o q (K.ln 1 c (K.ln 1 c x)) y = ep o q x y := by
  have hl0 := ln_ne (a := 1) c (by decide) hx hx0
  obtain ⟨h1, h2⟩ := V.ln x hx hx0
  obtain ⟨h3, h4⟩ := V.ln _ (hx.ln 1 c) hl0
  unfold ep
  rw [h4, h2]
  by_cases k : (o x + o y) % 2 = 1
  · rw [if_pos k, if_pos (by omega)]
  · rw [if_neg k, if_neg (by omega)]
theorem signs1 {a b : Rat} (ha : a ≠ 0) (hb : b ≠ 0) (h : a + b ≠ 0) : sgn1 (a + b) * (sgn1 a + sgn1 b) = 1 + sgn1 a * sgn1 b := by
  rcases sgn_cases ha with k | k <;> rcases sgn_cases hb with l | l <;> rw [k.2, l.2]
  · rw [sgn_pos (by grind)]; rfl
  · simp
  · simp
  · have : sgn1 (a + b) = -1 := by
      rcases sgn_cases h with m | m
      · grind
      · exact m.2
    rw [this]; rfl
theorem Vl.q4 (V : Vl c o q) (y z : Po) (α : Rat) (hy : Fs y) (hz : Fs z) (hy0 : y ≠ zr) (hα : α ≠ 0) :
    ep o q y (ad (K.sm α (K.ln 1 c y)) (K.sm (-1) z)) + ep o q y z = sgn1 α + sgn1 α * ep o q (ad (K.sm α (K.ln 1 c y)) (K.sm (-1) z)) (K.ln 1 c z) := by
  have hl := hy.ln 1 c
  have hl0 := ln_ne (a := 1) c (by decide) hy hy0
  obtain ⟨hly, qly⟩ := V.ln y hy hy0
  obtain ⟨g, hg⟩ : ∃ g, g = K.sm α (K.ln 1 c y) := ⟨_, rfl⟩
  have fg : Fs g := by rw [hg]; exact hl.sm α
  have g0 : g ≠ zr := by rw [hg]; exact sm_ne hα hl0
  have og : o g = o (K.ln 1 c y) := by rw [hg]; exact (V.sm _ α hl hα).1
  have qg : q g = α * q y := by rw [hg, (V.sm _ α hl hα).2, qly]
  rw [← hg]
  have qy := V.qn y hy hy0
  have sy := sgn_sq qy
  have egy : ep o q y g = sgn1 α := by
    rw [V.odd (by omega), qg, sgn_mul, Int.mul_comm (sgn1 α), ← Int.mul_assoc, sy, Int.one_mul]
  by_cases hz0 : z = zr
  · rw [hz0, sm_zr, ad_zr, ln_zr, V.nil, V.nil, egy]
    omega
  · have m1 : (-1 : Rat) ≠ 0 := by decide
    obtain ⟨w, hw⟩ : ∃ w, w = K.sm (-1) z := ⟨_, rfl⟩
    have fw : Fs w := by rw [hw]; exact hz.sm _
    have w0 : w ≠ zr := by rw [hw]; exact sm_ne m1 hz0
    have ow : o w = o z := by rw [hw]; exact (V.sm z _ hz m1).1
    have qw : q w = -q z := by rw [hw, (V.sm z _ hz m1).2]; grind
    rw [← hw]
    have qz := V.qn z hz hz0
    have sz := sgn_sq qz
    obtain ⟨hlz, qlz⟩ := V.ln z hz hz0
    have elz : ∀ x, ep o q x (K.ln 1 c z) = if (o x + o z) % 2 = 0 then sgn1 (q x) * sgn1 (q z) else 0 := by
      intro x
      rw [ep_comm]
      by_cases k : (o x + o z) % 2 = 0
      · rw [if_pos k, V.lnl z x hz hz0 (by omega), Int.mul_comm]
      · rw [if_neg k, V.lnl0 z x hz hz0 (by omega)]
    rcases Int.lt_trichotomy (o g) (o w) with h | h | h
    · obtain ⟨h1, h2⟩ := V.lt g w fg fw g0 w0 h
      have e1 : ep o q y (ad g w) = sgn1 α := by rw [ep_comm, ep_cong h1 h2, ep_comm, egy]
      rw [e1, elz, h1, h2, qg, sgn_mul]
      unfold ep
      by_cases k : (o y + o z) % 2 = 1
      · rw [if_pos k, if_pos (by omega), Int.mul_assoc, ← Int.mul_assoc, sgn_sq hα, Int.one_mul]
      · rw [if_neg k, if_neg (by omega)]
        omega
    · by_cases k : q g + q w = 0
      · -- they cancel
        have e1 : q z = α * q y := by rw [qw, qg] at k; grind
        have e2 : ep o q y z = sgn1 α := by
          rw [V.odd (by omega), e1, sgn_mul, Int.mul_comm (sgn1 α), ← Int.mul_assoc, sy, Int.one_mul]
        rw [e2, elz, e1, sgn_mul]
        unfold ep
        by_cases p : (o y + o (ad g w)) % 2 = 1
        · rw [if_pos p, if_pos (by omega)]
          have : sgn1 α * (sgn1 (q (ad g w)) * (sgn1 α * sgn1 (q y))) = sgn1 α * sgn1 α * (sgn1 (q y) * sgn1 (q (ad g w))) := by
            rw [Int.mul_left_comm (sgn1 (q (ad g w))), ← Int.mul_assoc, Int.mul_comm (sgn1 (q y))]
          rw [this, sgn_sq hα]
          omega
        · rw [if_neg p, if_neg (by omega)]
          omega
      · obtain ⟨h1, h2⟩ := V.eq g w fg fw g0 w0 h k
        have e1 : ep o q y (ad g w) = sgn1 (q y) * sgn1 (q g + q w) := by rw [V.odd (by omega), h2]
        have e2 : ep o q y z = sgn1 (q y) * sgn1 (q z) := V.odd (by omega)
        rw [e1, e2, elz, if_pos (by omega), h2]
        have hs := signs1 (V.qn g fg g0) (V.qn w fw w0) k
        rw [qg, qw, sgn_mul, sgn_neg] at hs
        rw [qg, qw]
        generalize sgn1 (α * q y + -q z) = U at *
        have a1 := sgn_sq hα
        rcases sgn_cases hα with ⟨_, ea⟩ | ⟨_, ea⟩ <;> rcases sgn_cases qy with ⟨_, ey⟩ | ⟨_, ey⟩ <;> rcases sgn_cases qz with ⟨_, ez⟩ | ⟨_, ez⟩ <;> rw [ea, ey, ez] at hs <;> rw [ea, ey, ez] <;> omega
    · rw [ad_comm]
      obtain ⟨h1, h2⟩ := V.lt w g fw fg w0 g0 h
      have e1 : ep o q y (ad w g) = -ep o q y z := by
        rw [ep_comm, ep_cong h1 h2, hw, V.esml _ _ _ hz, ep_comm]
        have : sgn1 (-1) = -1 := rfl
        rw [this]
        omega
      rw [e1, elz, h1, h2, if_pos (by omega), qw, sgn_neg, Int.neg_mul, sz]
      omega
theorem Vl.q5 (V : Vl c o q) (y r : Po) (ρ : Rat) (hy : Fs y) (hr : Fs r) (hy0 : y ≠ zr) (hρ : ρ ≠ 0) :
    ep o q (K.ln 1 c y) (ad (K.sm ρ y) (K.ln 1 c r)) + sgn1 ρ * ep o q (ad (K.sm ρ y) (K.ln 1 c r)) r = ep o q y r + sgn1 ρ := by
  obtain ⟨g, hg⟩ : ∃ g, g = K.sm ρ y := ⟨_, rfl⟩
  have fg : Fs g := by rw [hg]; exact hy.sm ρ
  have g0 : g ≠ zr := by rw [hg]; exact sm_ne hρ hy0
  have og : o g = o y := by rw [hg]; exact (V.sm _ ρ hy hρ).1
  have qg : q g = ρ * q y := by rw [hg, (V.sm _ ρ hy hρ).2]
  rw [← hg]
  have qy := V.qn y hy hy0
  have sy := sgn_sq qy
  have ely : ∀ x, ep o q (K.ln 1 c y) x = if (o y + o x) % 2 = 0 then sgn1 (q y) * sgn1 (q x) else 0 := by
    intro x
    by_cases k : (o y + o x) % 2 = 0
    · rw [if_pos k, V.lnl y x hy hy0 k]
    · rw [if_neg k, V.lnl0 y x hy hy0 (by omega)]
  by_cases hr0 : r = zr
  · rw [hr0, ln_zr, ad_zr, V.nil, V.nil, ely, if_pos (by omega), qg, sgn_mul, Int.mul_comm (sgn1 ρ), ← Int.mul_assoc, sy]
    omega
  · obtain ⟨w, hw⟩ : ∃ w, w = K.ln 1 c r := ⟨_, rfl⟩
    have fw : Fs w := by rw [hw]; exact hr.ln 1 c
    have w0 : w ≠ zr := by rw [hw]; exact ln_ne c (by decide) hr hr0
    obtain ⟨ow, qw⟩ := V.ln r hr hr0
    rw [← hw] at ow qw ⊢
    have qr := V.qn r hr hr0
    have sr := sgn_sq qr
    rcases Int.lt_trichotomy (o g) (o w) with h | h | h
    · obtain ⟨h1, h2⟩ := V.lt g w fg fw g0 w0 h
      rw [ely, h1, h2, if_pos (by omega), ep_cong h1 h2, hg, V.esml _ _ _ hy, ← hg, qg, sgn_mul, Int.mul_comm (sgn1 ρ), ← Int.mul_assoc, sy, ← Int.mul_assoc, sgn_sq hρ]
      omega
    · by_cases k : q g + q w = 0
      · have e1 : q r = -(ρ * q y) := by rw [qw, qg] at k; grind
        have e2 : ep o q y r = -sgn1 ρ := by
          rw [V.odd (by omega), e1, sgn_neg, sgn_mul, Int.mul_neg, Int.mul_comm (sgn1 ρ), ← Int.mul_assoc, sy, Int.one_mul]
        rw [e2, ely]
        unfold ep
        by_cases p : (o y + o (ad g w)) % 2 = 0
        · rw [if_pos p, if_pos (by omega), e1, sgn_neg, sgn_mul]
          have : sgn1 ρ * (sgn1 (q (ad g w)) * -(sgn1 ρ * sgn1 (q y))) = -(sgn1 ρ * sgn1 ρ * (sgn1 (q y) * sgn1 (q (ad g w)))) := by
            rw [Int.mul_neg, Int.mul_neg, Int.mul_left_comm (sgn1 (q (ad g w))), ← Int.mul_assoc, Int.mul_comm (sgn1 (q y))]
          rw [this, sgn_sq hρ]
          omega
        · rw [if_neg p, if_neg (by omega)]
          omega
      · obtain ⟨h1, h2⟩ := V.eq g w fg fw g0 w0 h k
        have e1 : ep o q (ad g w) r = sgn1 (q g + q w) * sgn1 (q r) := by rw [V.odd (by omega), h2]
        have e2 : ep o q y r = sgn1 (q y) * sgn1 (q r) := V.odd (by omega)
        rw [e1, e2, ely, if_pos (by omega), h2]
        have hs := signs1 (V.qn g fg g0) (V.qn w fw w0) k
        rw [qg, qw, sgn_mul] at hs
        rw [qg, qw]
        generalize sgn1 (ρ * q y + q r) = U at *
        rcases sgn_cases hρ with ⟨_, ea⟩ | ⟨_, ea⟩ <;> rcases sgn_cases qy with ⟨_, ey⟩ | ⟨_, ey⟩ <;> rcases sgn_cases qr with ⟨_, ez⟩ | ⟨_, ez⟩ <;> rw [ea, ey, ez] at hs <;> rw [ea, ey, ez] <;> omega
    · rw [ad_comm]
      obtain ⟨h1, h2⟩ := V.lt w g fw fg w0 g0 h
      have e1 : ep o q (ad w g) r = 1 := by rw [ep_cong h1 h2, V.odd (by omega), qw, sr]
      rw [e1, ely, h1, h2, qw]
      unfold ep
      by_cases p : (o y + o r) % 2 = 1
      · rw [if_pos p, if_pos (by omega)]
        omega
      · rw [if_neg p, if_neg (by omega)]
        omega
end
end Go.Proofs.YtklkpkkjakllfaaGreatDoor.K
namespace Go.Proofs.YtklkpkkjakllfaaGreatDoor.K
noncomputable def oI (x : Po) : Int := -(len x : Int)
theorem len_ad_eq {x y : Po} (hx : Fs x) (hy : Fs y) (hx0 : x ≠ zr) (h : len x = len y) (k : lc x + lc y ≠ 0) : len (ad x y) = len x ∧ lc (ad x y) = lc x + lc y := by
  have hp := len_pos hx hx0
  have e : ad x y (len x - 1) = lc x + lc y := by
    show x (len x - 1) + y (len x - 1) = x (len x - 1) + y (len y - 1)
    rw [h]
  have h1 : PL (ad x y) (len x) := by
    refine ⟨fun i hi => ?_, fun _ => by rw [e]; exact k⟩
    show x i + y i = 0
    rw [out hx hi, out hy (by omega)]
    grind
  refine ⟨h1.len, ?_⟩
  show ad x y (len (ad x y) - 1) = _
  rw [h1.len, e]
theorem vlI (c : Rat) : Vl c oI lc where
  q0 := lc_zr
  qn := fun x h => lc_ne h
  sm := fun x k h hk => ⟨by unfold oI; rw [len_sm h hk], lc_sm h hk⟩
  lt := fun x y hx hy _ _ h => by
    unfold oI at h
    obtain ⟨h1, h2⟩ := len_ad hx hy (by omega)
    exact ⟨by unfold oI; rw [h1], h2⟩
  eq := fun x y hx hy hx0 _ h k => by
    unfold oI at h
    obtain ⟨h1, h2⟩ := len_ad_eq hx hy hx0 (by omega) k
    exact ⟨by unfold oI; rw [h1], h2⟩
  ln := fun x hx hx0 => by
    obtain ⟨h1, h2⟩ := len_ln (a := 1) c (by decide) hx hx0
    refine ⟨.inr ?_, ?_⟩
    · unfold oI
      rw [h1]
      omega
    · rw [h2]
      grind
theorem eps_ep (x y : Po) : eps x y = ep oI lc x y := by
  unfold eps ep oI
  by_cases h : (len x + len y) % 2 = 1
  · rw [if_pos h, if_pos (by omega)]
  · rw [if_neg h, if_neg (by omega)]
theorem sb_ad (x y : Po) : sb x y = ad x (sm (-1) y) := by funext i; simp only [sb, ad, sm]; grind
theorem eps_dq (c a : Rat) (x y : Po) (hx : Fs x) (h0 : x ≠ zr) : eps (dq c a x) y = eps x y := by
  obtain ⟨h1, h2⟩ := len_dq c a hx h0
  unfold eps
  rw [h1, h2]
  by_cases h : (len x + len y) % 2 = 1
  · rw [if_pos h, if_pos (by omega)]
  · rw [if_neg h, if_neg (by omega)]
theorem eps_q3 (y z : Po) (α β d b : Rat) (hy : Fs y) (hz : Fs z) (hy0 : y ≠ zr) (hl : len z < len y) (hα : α ≠ 0) (hd : 0 < d) :
    eps y (sb (ln α β y) z) + eps y z = eps (sb (ln α β y) z) (ad (sm d y) (ln α⁻¹ b z)) + eps (ad (sm d y) (ln α⁻¹ b z)) z := by
  have hd0 : d ≠ 0 := by grind
  have hi0 : α⁻¹ ≠ 0 := fun e => by have := Rat.inv_mul_cancel α hα; rw [e] at this; grind
  obtain ⟨l1, l2⟩ := len_ln β hα hy hy0
  have hu : len (sb (ln α β y) z) = len y + 1 ∧ lc (sb (ln α β y) z) = α * lc y := by
    rw [sb_ad]
    have h1 : len (sm (-1) z) = len z := len_sm hz (by decide)
    obtain ⟨h2, h3⟩ := len_ad (hy.ln α β) (hz.sm (-1)) (by omega)
    exact ⟨by omega, by rw [h3, l2]⟩
  have qy := lc_ne hy hy0
  have sy := sgn_sq qy
  have hp := len_pos hy hy0
  have eyu : eps y (sb (ln α β y) z) = sgn1 α := by
    unfold eps
    rw [hu.1, hu.2, if_pos (by omega), sgn_mul, Int.mul_comm (sgn1 α), ← Int.mul_assoc, sy, Int.one_mul]
  rw [eyu]
  have euv : ∀ v, eps (sb (ln α β y) z) v = if (len y + 1 + len v) % 2 = 1 then sgn1 α * sgn1 (lc y) * sgn1 (lc v) else 0 := by
    intro v
    unfold eps
    rw [hu.1, hu.2, sgn_mul]
  rw [euv]
  have d1 := len_sm hy hd0
  have d2 := lc_sm hy hd0
  have sd := sgn_pos hd
  by_cases hz0 : z = zr
  · rw [hz0, ln_zr, ad_zr, eps_zr, eps_zr, d1, d2, sgn_mul, sd, if_pos (by omega), Int.one_mul, Int.mul_assoc, sy]
    omega
  · obtain ⟨m1, m2⟩ := len_ln b hi0 hz hz0
    have qz := lc_ne hz hz0
    have fl := hz.ln α⁻¹ b
    have fs := hy.sm d
    rcases Nat.lt_or_ge (len z + 1) (len y) with h | h
    · obtain ⟨h2, h3⟩ := len_ad fs fl (by omega)
      have e1 : eps (ad (sm d y) (ln α⁻¹ b z)) z = eps y z := by
        unfold eps
        rw [h2, h3, d1, d2, sgn_mul, sd, Int.one_mul]
      rw [e1, h2, h3, d1, d2, sgn_mul, sd, if_pos (by omega), Int.one_mul, Int.mul_assoc, sy]
      omega
    · have e2 : eps y z = sgn1 (lc y) * sgn1 (lc z) := by
        unfold eps
        rw [if_pos (by omega)]
      by_cases k : lc (sm d y) + lc (ln α⁻¹ b z) = 0
      · -- the ends cancel
        have k2 : lc z = -(α * d * lc y) := by
          rw [d2, m2] at k
          have := Rat.inv_mul_cancel α hα
          grind
        have e3 : sgn1 (lc z) = -(sgn1 α * sgn1 (lc y)) := by rw [k2, sgn_neg, sgn_mul, sgn_mul, sd, Int.mul_one]
        rw [e2]
        unfold eps
        rw [e3]
        by_cases p : (len y + 1 + len (ad (sm d y) (ln α⁻¹ b z))) % 2 = 1
        · rw [if_pos p, if_pos (by omega), Int.mul_neg, Int.mul_neg, Int.mul_comm (sgn1 α), ← Int.mul_assoc, sy, Int.mul_comm (sgn1 (lc (ad _ _)))]
          omega
        · rw [if_neg p, if_neg (by omega), Int.mul_neg, Int.mul_comm (sgn1 α), ← Int.mul_assoc, sy]
          omega
      · obtain ⟨h2, h3⟩ := len_ad_eq fs fl (sm_ne hd0 hy0) (by omega) k
        have e1 : eps (ad (sm d y) (ln α⁻¹ b z)) z = sgn1 (lc (sm d y) + lc (ln α⁻¹ b z)) * sgn1 (lc z) := by
          unfold eps
          rw [h2, h3, d1, if_pos (by omega)]
        have ql : lc (ln α⁻¹ b z) ≠ 0 := lc_ne fl (ln_ne b hi0 hz hz0)
        have hs := signs1 (lc_ne fs (sm_ne hd0 hy0)) ql k
        rw [e1, e2, h2, h3, d1, if_pos (by omega)]
        rw [d2, m2, sgn_mul d, sd, sgn_mul α⁻¹, sgn_inv hα] at hs
        rw [d2, m2]
        generalize sgn1 (d * lc y + α⁻¹ * lc z) = U at *
        rcases sgn_cases hα with ⟨_, ea⟩ | ⟨_, ea⟩ <;> rcases sgn_cases qy with ⟨_, ey⟩ | ⟨_, ey⟩ <;> rcases sgn_cases qz with ⟨_, ez⟩ | ⟨_, ez⟩ <;> rw [ea, ey, ez] at hs <;> rw [ea, ey, ez] <;> omega
theorem sq_ge (q : Rat) : 0 ≤ q * q := by
  rcases Rat.le_total (a := 0) (b := q) with k | k
  · exact Rat.mul_nonneg k k
  · have := Rat.mul_nonneg (Rat.neg_le_neg k) (Rat.neg_le_neg k)
    grind
theorem d_pos {c a α β d : Rat} (hd : d = (c - β / α) * (c - β / α) + a * a) (h : d ≠ 0) : 0 < d := by
  have s1 := sq_ge a
  have s2 := sq_ge (c - β / α)
  grind
theorem indI (c : Rat) {a : Rat} (ha : a ≠ 0) : Ind c a idx eps where
  add := fun x y z hx hy hz h => idx_add hx hy hz h
  smr := fun x y k hx hy => idx_smr hx hy
  turn := fun x y hx hy hx0 hy0 => idx_turn hx hy hx0 hy0
  comm := eps_comm
  esm := fun x y k _ hy => eps_sm hy
  edq := fun x y hx _ h0 => eps_dq c a x y hx h0
  tri := fun u z hu hz => by
    rw [eps_ep, eps_ep, eps_ep]
    exact (vlI c).tri u z hu hz
  q3 := fun y z α β d hy hz hy0 hl hα hd hd0 => eps_q3 y z α β d _ hy hz hy0 hl hα (d_pos hd hd0)
  q4 := fun h => absurd h ha
  q5 := fun h => absurd h ha
theorem idx_dq (c : Rat) {a : Rat} (ha : a ≠ 0) {x y : Po} (hy : Fs y) (hx : Fs x) (h0 : y ≠ zr) : idx (dq c a y) x = idx y x := ((indI c ha).both (len y)).1 y x hy hx h0 (Nat.le_refl _)
theorem idx_dqr (c : Rat) {a : Rat} (ha : a ≠ 0) {x y : Po} (hx : Fs x) (hy : Fs y) (h0 : x ≠ zr) : idx x (dq c a y) = idx x y := by
  by_cases hy0 : y = zr
  · rw [hy0, dq_zr]
  · have t1 := idx_turn hx (hy.dq c a) h0 (dq_ne c a hy hy0)
    have t2 := idx_turn hx hy h0 hy0
    rw [idx_dq c ha hy hx hy0, eps_comm, eps_dq c a y x hy hy0, eps_comm] at t1
    omega
theorem idx_turned {c a : Rat} (ha : a ≠ 0) {x y : Po} (hx : Fs x) (hy : Fs y) (hx0 : x ≠ zr) (hl : len y < len x) : idx (ad (ln 1 c x) (sm a y)) (sb (ln 1 c y) (sm a x)) = idx x y - sgn1 a := by
  obtain ⟨u, hu⟩ : ∃ u, u = ad (ln 1 c x) (sm a y) := ⟨_, rfl⟩
  have fu : Fs u := by rw [hu]; exact (hx.ln 1 c).ad (hy.sm a)
  obtain ⟨l1, l2⟩ := len_ln (a := 1) c (by decide) hx hx0
  have hsm : len (sm a y) = len y := len_sm hy ha
  obtain ⟨l3, l4⟩ := len_ad (hx.ln 1 c) (hy.sm a) (by omega)
  rw [← hu] at l3 l4
  have hu0 : u ≠ zr := fun e => by rw [e, len_zr] at l3; omega
  have fv : Fs (sb (ln 1 c y) (sm a x)) := (hy.ln 1 c).sb (hx.sm a)
  rw [← hu]
  have hD0 := dq_ne c a hx hx0
  have hi := Rat.inv_mul_cancel a ha
  have h1 : idx u (sb (ln 1 c y) (sm a x)) = idx u (sm (-a⁻¹) (dq c a x)) := by
    refine idx_add fu ((hx.dq c a).sm _) fv ?_
    have e : sb (sb (ln 1 c y) (sm a x)) (sm (-a⁻¹) (dq c a x)) = ln a⁻¹ (a⁻¹ * c) u := by
      rw [hu, ln_ad, ln_sm]
      have e1 : ∀ i, ln a⁻¹ (a⁻¹ * c) (ln 1 c x) i = a⁻¹ * (sh (sh x) i + 2 * c * sh x i + c * c * x i) := by
        intro i
        unfold ln
        rw [sh_ad, sh_sm, sh_sm]
        simp only [ad, sm]
        grind
      funext i
      show ln 1 c y i - a * x i - -a⁻¹ * dq c a x i = ln a⁻¹ (a⁻¹ * c) (ln 1 c x) i + a * ln a⁻¹ (a⁻¹ * c) y i
      rw [e1, dq_at, ln_at, ln_at]
      grind
    rw [e]
    exact (Mu.self u).ln _ _
  rw [h1, idx_smr fu (hx.dq c a), idx_dqr c ha fu hx hu0]
  have t := idx_turn fu hx hu0 hx0
  have e1 : eps u x = 1 := by
    unfold eps
    rw [l3, l4, l1, l2, if_pos (by omega), Rat.one_mul, sgn_sq (lc_ne hx hx0)]
  have h2 : idx x u = sgn1 a * idx x y := by
    rw [← idx_smr hx hy]
    refine idx_add hx (hy.sm a) fu ?_
    have e : sb u (sm a y) = ln 1 c x := by rw [hu]; funext i; simp only [sb, ad]; grind
    rw [e]
    exact (Mu.self x).ln 1 c
  have h3 : idx u x = 1 - sgn1 a * idx x y := by omega
  rw [h3, sgn_neg, sgn_inv ha, Int.mul_sub, Int.neg_mul, Int.neg_mul, ← Int.mul_assoc, sgn_sq ha]
  omega
end Go.Proofs.YtklkpkkjakllfaaGreatDoor.K
namespace Go.Proofs.YtklkpkkjakllfaaGreatDoor.K
theorem up_if (x : Po) (j i : Nat) : up j x i = if j ≤ i then x (i - j) else 0 := by
  by_cases h : j ≤ i
  · rw [if_pos h]
    obtain ⟨k, rfl⟩ : ∃ k, i = k + j := ⟨i - j, by omega⟩
    rw [up_at, Nat.add_sub_cancel]
  · rw [if_neg h, up_low x j i (by omega)]
theorem step_is (x y : Po) (a b : Nat) : stepP x a y b = sb (sm (qabs (y (b - 1))) x) (sm (byQ x y a b) (up (a - b) y)) := by
  funext i
  unfold stepP
  show _ = qabs (y (b - 1)) * x i - byQ x y a b * up (a - b) y i
  rw [up_if]
  by_cases h : a - b ≤ i
  · rw [if_pos h, if_pos h]
  · rw [if_neg h, if_neg h, Rat.mul_zero]
theorem lft_is {y : Po} {b : Nat} (hy : PL y b) (hb : 0 < b) : ∀ (n : Nat) (x : Po) (a : Nat) (r : Po) (c : Nat), PL x a → LftF y b n x a r c → PL r c ∧ c < b ∧ ∃ k : Rat, 0 < k ∧ Mu y (sb (sm k x) r) := by
  intro n
  have base : ∀ (x : Po) (a : Nat) (r : Po) (c : Nat), PL x a → (a < b ∧ r = x ∧ c = a) → PL r c ∧ c < b ∧ ∃ k : Rat, 0 < k ∧ Mu y (sb (sm k x) r) := by
    rintro x a r c hx ⟨h1, rfl, rfl⟩
    exact ⟨hx, h1, 1, by decide, by rw [sm_one, sb_self]; exact .zero y⟩
  induction n with
  | zero => exact fun x a r c hx h => base x a r c hx h
  | succ n ih =>
    intro x a r c hx h
    rcases h with h | ⟨hba, a', hp, h⟩
    · exact base x a r c hx h
    · obtain ⟨h1, h2, k, hk, hm⟩ := ih _ a' r c hp h
      have hq := qabs_pos (hy.2 hb)
      refine ⟨h1, h2, k * qabs (y (b - 1)), Rat.mul_pos hk hq, ?_⟩
      rw [step_is] at hm
      have e : sb (sm (k * qabs (y (b - 1))) x) r = ad (sb (sm k (sb (sm (qabs (y (b - 1))) x) (sm (byQ x y a b) (up (a - b) y)))) r) (sm (k * byQ x y a b) (up (a - b) y)) := by
        funext i
        simp only [sb, sm, ad]
        grind
      rw [e]
      exact hm.add ((up_mu y _).sm _)
def Gc (x y s : Po) : Prop := ∀ g, (Mu g x ∧ Mu g y) ↔ Mu g s
theorem Mu.of_smr {g x : Po} {k : Rat} (hk : k ≠ 0) (h : Mu g (K.sm k x)) : Mu g x := by
  have := h.sm k⁻¹
  rw [sm_sm, Rat.inv_mul_cancel k hk, sm_one] at this
  exact this
theorem jmp_is : ∀ (n : Nat) (x : Po) (a : Nat) (y : Po) (b : Nat) (u : Int) (s : Po) (d : Nat), PL x a → PL y b → b < a → JmpF n x a y b u s d → u = idx x y ∧ PL s d ∧ Gc x y s := by
  intro n
  have base : ∀ (x : Po) (a : Nat) (y : Po) (b : Nat) (u : Int) (s : Po) (d : Nat), PL x a → PL y b → b < a → (b = 0 ∧ u = 0 ∧ s = x ∧ d = a) → u = idx x y ∧ PL s d ∧ Gc x y s := by
    rintro x a y b u s d hx hy hb ⟨rfl, rfl, rfl, rfl⟩
    have : y = zr := PL0 hy
    rw [this]
    exact ⟨(idx_zr _ hx.fs).symm, hx, fun g => ⟨fun h => h.1, fun h => ⟨h, .zero g⟩⟩⟩
  induction n with
  | zero => exact fun x a y b u s d hx hy hb h => base x a y b u s d hx hy hb h
  | succ n ih =>
    intro x a y b u s d hx hy hb h
    rcases h with h | ⟨hb0, r, c, k, u', ⟨m, hl⟩, hk, hu, hj⟩
    · exact base x a y b u s d hx hy hb h
    · obtain ⟨h1, h2, q, hq, hm⟩ := lft_is hy hb0 m x a r c hx hl
      have hk0 : k ≠ 0 := by grind
      have hq0 : q ≠ 0 := by grind
      have e1 : (fun i => k * -r i) = sm (-k) r := by
        funext i
        show k * -r i = -k * r i
        grind
      rw [e1] at hj
      have hkn : -k ≠ 0 := by grind
      obtain ⟨j1, j2, j3⟩ := ih y b (sm (-k) r) c u' s d hy (PL_sm hkn h1) h2 hj
      have hx0 : x ≠ zr := fun e => by rw [e] at hx; have := hx.len; rw [len_zr] at this; omega
      have hy0 : y ≠ zr := fun e => by rw [e] at hy; have := hy.len; rw [len_zr] at this; omega
      have t := idx_turn hx.fs hy.fs hx0 hy0
      have e2 : jmp1 x y a b = eps x y := by
        unfold jmp1 eps lc
        rw [hx.len, hy.len]
        by_cases p : (a - b) % 2 = 0
        · rw [if_pos p, if_neg (by omega)]
        · rw [if_neg p, if_pos (by omega)]
      have e3 : u' = -idx y x := by
        rw [j1, idx_smr hy.fs h1.fs, sgn_neg, sgn_pos hk]
        have h3 : idx y (sm q x) = idx y r := idx_add hy.fs h1.fs (hx.fs.sm q) hm
        rw [idx_smr hy.fs hx.fs, sgn_pos hq] at h3
        omega
      refine ⟨by omega, j2, fun g => ?_⟩
      rw [← j3 g]
      constructor
      · rintro ⟨gx, gy⟩
        refine ⟨gy, ?_⟩
        have h4 : Mu g r := by
          have := (gx.sm q).sub (gy.trans hm)
          have e : sb (sm q x) (sb (sm q x) r) = r := by funext i; simp only [sb]; grind
          rw [e] at this
          exact this
        exact h4.sm _
      · rintro ⟨gy, gr⟩
        refine ⟨?_, gy⟩
        have h4 : Mu g r := gr.of_smr hkn
        have := (gy.trans hm).add h4
        have e : ad (sb (sm q x) r) r = sm q x := by funext i; simp only [sb, ad]; grind
        rw [e] at this
        exact this.of_smr hq0
end Go.Proofs.YtklkpkkjakllfaaGreatDoor.K
namespace Go.Proofs.YtklkpkkjakllfaaGreatDoor.K
theorem ln_inj {a b : Rat} (ha : a ≠ 0) {x y : Po} (hx : Fs x) (hy : Fs y) (h : ln a b x = ln a b y) : x = y := by
  rcases Classical.em (sb x y = zr) with e | e
  · funext i
    have := congrFun e i
    simp only [sb, zr] at this
    grind
  · have h1 := ln_ne b ha (hx.sb hy) e
    rw [ln_sb, h, sb_self] at h1
    exact absurd rfl h1
def on : Po := fun i => if i = 0 then 1 else 0
theorem on_fs : Fs on := ⟨1, fun i hi => by unfold on; rw [if_neg (by omega)]⟩
theorem on_pl : PL on 1 := ⟨fun i hi => by unfold on; rw [if_neg (by omega)], fun _ => by unfold on; rw [if_pos rfl]; decide⟩
theorem on_ne : on ≠ zr := fun e => by have := on_pl.len; rw [e, len_zr] at this; omega
theorem on_mu : ∀ (n : Nat) (x : Po), (∀ i, n ≤ i → x i = 0) → Mu on x := by
  intro n
  induction n with
  | zero =>
    intro x h
    have : x = zr := funext fun i => h i (Nat.zero_le _)
    rw [this]
    exact .zero _
  | succ n ih =>
    intro x h
    have h1 := ih (fun i => x (i + 1)) (fun i hi => h (i + 1) (by omega))
    have e : x = ad (sm (x 0) on) (sh (fun i => x (i + 1))) := by
      funext i
      cases i with
      | zero => show x 0 = x 0 * on 0 + sh _ 0; rw [sh_0]; unfold on; simp; grind
      | succ i => show x (i + 1) = x 0 * on (i + 1) + sh _ (i + 1); rw [sh_succ]; unfold on; simp; grind
    rw [e]
    exact ((Mu.self on).sm _).add h1.sh
theorem mu_ln {a b : Rat} {x y : Po} (h : Mu (ln a b x) y) : ∃ z, Mu x z ∧ y = ln a b z := by
  obtain ⟨q, rfl⟩ := h
  induction q with
  | nil => exact ⟨zr, .zero _, by rw [ln_zr]; rfl⟩
  | cons k q ih =>
    obtain ⟨z, hz, e⟩ := ih
    refine ⟨ad (sm k x) (sh z), ((Mu.self x).sm k).add hz.sh, ?_⟩
    simp only [mulL]
    rw [e, ln_ad, ln_sm]
    have e1 : ln a b (sh z) = sh (ln a b z) := by
      unfold ln
      rw [sh_ad, sh_sm, sh_sm]
    rw [e1]
noncomputable def ev (c : Rat) (x : Po) : Rat := rem (ln 1 c on) x 0
theorem lnon_len (c : Rat) : len (ln 1 c on) = 2 := by
  have := (len_ln (a := 1) c (by decide) on_fs on_ne).1
  rw [on_pl.len] at this
  exact this
theorem lnon_ne (c : Rat) : ln 1 c on ≠ zr := ln_ne c (by decide) on_fs on_ne
theorem len1 {r : Po} (h : Fs r) (hl : len r < 2) : r = sm (r 0) on := by
  funext i
  show r i = r 0 * on i
  unfold on
  by_cases e : i = 0
  · rw [if_pos e, e]; grind
  · rw [if_neg e, out h (by omega)]; grind
theorem ev_rm {c : Rat} {x : Po} {v : Rat} (hx : Fs x) (h : Mu (ln 1 c on) (sb x (sm v on))) : ev c x = v := by
  have h1 := rem_rm (on_fs.ln 1 c) (lnon_ne c) hx
  have h2 : Rm (ln 1 c on) x (sm v on) := by
    refine ⟨on_fs.sm v, ?_, h⟩
    have : len (sm v on) ≤ 1 := len_le (on_fs.sm v) (fun i hi => by show v * on i = 0; rw [on_pl.1 i hi, Rat.mul_zero])
    rw [lnon_len]
    omega
  unfold ev
  rw [rm_uniq (on_fs.ln 1 c) h1 h2]
  show v * on 0 = v
  unfold on
  simp
theorem ev_mu (c : Rat) {x : Po} (hx : Fs x) : Mu (ln 1 c on) (sb x (sm (ev c x) on)) := by
  have h1 := rem_rm (on_fs.ln 1 c) (lnon_ne c) hx
  have h2 := len1 h1.1 (by have := h1.2.1; rwa [lnon_len] at this)
  have h3 := h1.2.2
  rw [h2] at h3
  exact h3
theorem ev_ad (c : Rat) {x y : Po} (hx : Fs x) (hy : Fs y) : ev c (ad x y) = ev c x + ev c y := by
  refine ev_rm (hx.ad hy) ?_
  have e : sb (ad x y) (sm (ev c x + ev c y) on) = ad (sb x (sm (ev c x) on)) (sb y (sm (ev c y) on)) := by
    funext i
    simp only [sb, ad, sm]
    grind
  rw [e]
  exact (ev_mu c hx).add (ev_mu c hy)
theorem ev_sm (c k : Rat) {x : Po} (hx : Fs x) : ev c (sm k x) = k * ev c x := by
  refine ev_rm (hx.sm k) ?_
  have e : sb (sm k x) (sm (k * ev c x) on) = sm k (sb x (sm (ev c x) on)) := by
    funext i
    simp only [sb, sm]
    grind
  rw [e]
  exact (ev_mu c hx).sm k
theorem ev_ln (c : Rat) {x : Po} (hx : Fs x) : ev c (ln 1 c x) = 0 := by
  refine ev_rm (hx.ln 1 c) ?_
  have e : sb (ln 1 c x) (sm 0 on) = ln 1 c x := by
    funext i
    simp only [sb, sm]
    grind
  rw [e]
  obtain ⟨n, hn⟩ := hx
  exact (on_mu n x hn).lnmap 1 c
theorem ev_zero (c : Rat) {x : Po} (hx : Fs x) (h : ev c x = 0) : ∃ y, Fs y ∧ x = ln 1 c y := by
  have h1 := ev_mu c hx
  rw [h] at h1
  have e : sb x (sm 0 on) = x := by
    funext i
    simp only [sb, sm]
    grind
  rw [e] at h1
  obtain ⟨z, hz, e2⟩ := mu_ln h1
  exact ⟨z, on_fs.mu hz, e2⟩
def pw (c : Rat) : Nat → Po → Po
  | 0, x => x
  | k + 1, x => ln 1 c (pw c k x)
theorem pw_fs (c : Rat) {x : Po} (h : Fs x) : ∀ k, Fs (pw c k x)
  | 0 => h
  | k + 1 => (pw_fs c h k).ln 1 c
theorem pw_ad (c : Rat) (x y : Po) : ∀ k, pw c k (ad x y) = ad (pw c k x) (pw c k y)
  | 0 => rfl
  | k + 1 => by rw [pw, pw_ad c x y k, ln_ad]; rfl
theorem pw_sm (c l : Rat) (x : Po) : ∀ k, pw c k (sm l x) = sm l (pw c k x)
  | 0 => rfl
  | k + 1 => by rw [pw, pw_sm c l x k, ln_sm]; rfl
theorem pw_add (c : Rat) (x : Po) (m : Nat) : ∀ k, pw c (k + m) x = pw c k (pw c m x)
  | 0 => by rw [Nat.zero_add]; rfl
  | k + 1 => by rw [Nat.add_right_comm, pw, pw_add c x m k]; rfl
theorem pw_inj (c : Rat) {x y : Po} (hx : Fs x) (hy : Fs y) : ∀ k, pw c k x = pw c k y → x = y
  | 0, h => h
  | k + 1, h => pw_inj c hx hy k (ln_inj (by decide) (pw_fs c hx k) (pw_fs c hy k) h)
theorem pw_zr (c : Rat) : ∀ k, pw c k zr = zr
  | 0 => rfl
  | k + 1 => by rw [pw, pw_zr c k, ln_zr]
def At (c : Rat) (x : Po) (k : Nat) (v : Rat) : Prop := v ≠ 0 ∧ ∃ y, Fs y ∧ x = pw c k y ∧ ev c y = v
theorem at_ex (c : Rat) : ∀ (n : Nat) (x : Po), Fs x → x ≠ zr → len x ≤ n → ∃ k v, At c x k v := by
  intro n
  induction n with
  | zero => exact fun x hx h0 hn => absurd (len_pos hx h0) (by omega)
  | succ n ih =>
    intro x hx h0 hn
    by_cases h : ev c x = 0
    · obtain ⟨y, hy, rfl⟩ := ev_zero c hx h
      have hy0 : y ≠ zr := fun e => h0 (by rw [e, ln_zr])
      have hl := (len_ln (a := 1) c (by decide) hy hy0).1
      obtain ⟨k, v, hv, z, hz, e, ez⟩ := ih y hy hy0 (by omega)
      exact ⟨k + 1, v, hv, z, hz, by rw [e]; rfl, ez⟩
    · exact ⟨0, _, h, x, hx, rfl, rfl⟩
theorem at_uniq {c : Rat} {x : Po} {k m : Nat} {v w : Rat} (h : At c x k v) (g : At c x m w) : k = m ∧ v = w := by
  have key : ∀ (k m : Nat) (v w : Rat), At c x k v → At c x m w → ¬ k < m := by
    rintro k m v w ⟨hv, y, hy, e1, ey⟩ ⟨hw, z, hz, e2, ez⟩ hlt
    obtain ⟨j, rfl⟩ : ∃ j, m = k + (j + 1) := ⟨m - k - 1, by omega⟩
    rw [pw_add] at e2
    have := pw_inj c hy (pw_fs c hz (j + 1)) k (e1.symm.trans e2)
    rw [this] at ey
    rw [pw, ev_ln c (pw_fs c hz j)] at ey
    exact hv ey.symm
  have hkm : k = m := by
    have h1 := key k m v w h g
    have h2 := key m k w v g h
    omega
  subst hkm
  obtain ⟨hv, y, hy, e1, ey⟩ := h
  obtain ⟨hw, z, hz, e2, ez⟩ := g
  have := pw_inj c hy hz k (e1.symm.trans e2)
  rw [← ey, ← ez, this]
  exact ⟨rfl, rfl⟩
noncomputable def oC (c : Rat) (x : Po) : Nat := Classical.epsilon (fun k => ∃ v, At c x k v)
noncomputable def qC (c : Rat) (x : Po) : Rat := Classical.epsilon (fun v => ∃ k, At c x k v ∨ (x = zr ∧ v = 0))
noncomputable def oCi (c : Rat) (x : Po) : Int := (oC c x : Int)
theorem at_not (c : Rat) (k : Nat) (v : Rat) : ¬ At c zr k v := by
  rintro ⟨hv, y, hy, e, ey⟩
  have h1 : y = zr := (pw_inj c .zr hy k (by rw [pw_zr]; exact e)).symm
  rw [h1] at ey
  have h2 : ev c zr = 0 := by
    have := ev_sm c 0 Fs.zr
    rw [sm_zr] at this
    grind
  exact hv (ey.symm.trans h2)
theorem at_oq {c : Rat} {x : Po} {k : Nat} {v : Rat} (h : At c x k v) : oC c x = k ∧ qC c x = v := by
  constructor
  · obtain ⟨w, hw⟩ := Classical.epsilon_spec (p := fun k => ∃ v, At c x k v) ⟨k, v, h⟩
    exact (at_uniq hw h).1
  · obtain ⟨m, hm⟩ := Classical.epsilon_spec (p := fun v => ∃ k, At c x k v ∨ (x = zr ∧ v = 0)) ⟨v, k, .inl h⟩
    rcases hm with hm | hm
    · exact (at_uniq hm h).2
    · rw [hm.1] at h
      exact absurd h (at_not c k v)
theorem oq_at (c : Rat) {x : Po} (hx : Fs x) (h0 : x ≠ zr) : At c x (oC c x) (qC c x) := by
  obtain ⟨k, v, h⟩ := at_ex c _ x hx h0 (Nat.le_refl _)
  obtain ⟨h1, h2⟩ := at_oq h
  rw [h1, h2]
  exact h
theorem qC_zr (c : Rat) : qC c zr = 0 := by
  obtain ⟨k, hk⟩ := Classical.epsilon_spec (p := fun v => ∃ k, At c zr k v ∨ (zr = zr ∧ v = 0)) ⟨0, 0, .inr ⟨rfl, rfl⟩⟩
  rcases hk with hk | hk
  · exact absurd hk (at_not c k _)
  · exact hk.2
theorem At.sm {c : Rat} {x : Po} {k : Nat} {v l : Rat} (h : At c x k v) (hl : l ≠ 0) : At c (sm l x) k (l * v) := by
  obtain ⟨hv, y, hy, e, ey⟩ := h
  refine ⟨fun e => ?_, K.sm l y, hy.sm l, by rw [pw_sm, e], by rw [ev_sm c l hy, ey]⟩
  rcases Rat.mul_eq_zero.1 e with e | e
  · exact hl e
  · exact hv e
theorem At.ln {c : Rat} {x : Po} {k : Nat} {v : Rat} (h : At c x k v) : At c (ln 1 c x) (k + 1) v := by
  obtain ⟨hv, y, hy, e, ey⟩ := h
  exact ⟨hv, y, hy, by rw [e]; rfl, ey⟩
theorem At.lt {c : Rat} {x y : Po} {k m : Nat} {v w : Rat} (h : At c x k v) (g : At c y m w) (hl : k < m) : At c (ad x y) k v := by
  obtain ⟨hv, x1, fx, rfl, ex⟩ := h
  obtain ⟨hw, y1, fy, rfl, ey⟩ := g
  obtain ⟨j, rfl⟩ : ∃ j, m = k + (j + 1) := ⟨m - k - 1, by omega⟩
  refine ⟨hv, ad x1 (pw c (j + 1) y1), fx.ad (pw_fs c fy _), by rw [pw_ad, pw_add], ?_⟩
  rw [ev_ad c fx (pw_fs c fy _), ex, pw, ev_ln c (pw_fs c fy j)]
  grind
theorem At.eq {c : Rat} {x y : Po} {k : Nat} {v w : Rat} (h : At c x k v) (g : At c y k w) (hn : v + w ≠ 0) : At c (ad x y) k (v + w) := by
  obtain ⟨hv, x1, fx, rfl, ex⟩ := h
  obtain ⟨hw, y1, fy, rfl, ey⟩ := g
  exact ⟨hn, ad x1 y1, fx.ad fy, by rw [pw_ad], by rw [ev_ad c fx fy, ex, ey]⟩
theorem vlC (c : Rat) : Vl c (oCi c) (qC c) where
  q0 := qC_zr c
  qn := fun x hx h0 => (oq_at c hx h0).1
  sm := fun x k hx hk => by
    by_cases h0 : x = zr
    · rw [h0, sm_zr, qC_zr]
      exact ⟨rfl, by grind⟩
    · have h1 := at_oq ((oq_at c hx h0).sm hk)
      exact ⟨by unfold oCi; rw [h1.1], h1.2⟩
  lt := fun x y hx hy hx0 hy0 h => by
    unfold oCi at h
    have h1 := at_oq ((oq_at c hx hx0).lt (oq_at c hy hy0) (by omega))
    exact ⟨by unfold oCi; rw [h1.1], h1.2⟩
  eq := fun x y hx hy hx0 hy0 h k => by
    unfold oCi at h
    have e : oC c x = oC c y := by omega
    have g := oq_at c hy hy0
    rw [← e] at g
    have h1 := at_oq ((oq_at c hx hx0).eq g k)
    exact ⟨by unfold oCi; rw [h1.1], h1.2⟩
  ln := fun x hx h0 => by
    have h1 := at_oq (oq_at c hx h0).ln
    exact ⟨.inl (by unfold oCi; rw [h1.1]; omega), h1.2⟩
def Ge (c : Rat) (k : Nat) (x : Po) : Prop := ∃ y, Fs y ∧ x = pw c k y
theorem Ge.oc {c : Rat} {k : Nat} {x : Po} (h : Ge c k x) (h0 : x ≠ zr) : k ≤ oC c x := by
  obtain ⟨y, hy, e⟩ := h
  have hy0 : y ≠ zr := fun e2 => h0 (by rw [e, e2, pw_zr])
  obtain ⟨m, v, hv, z, hz, e2, ez⟩ := at_ex c _ y hy hy0 (Nat.le_refl _)
  have : At c x (k + m) v := ⟨hv, z, hz, by rw [e, e2, pw_add], ez⟩
  rw [(at_oq this).1]
  omega
theorem Ge.of {c : Rat} {k : Nat} {x : Po} (hx : Fs x) (h : x ≠ zr → k ≤ oC c x) : Ge c k x := by
  by_cases h0 : x = zr
  · exact ⟨zr, .zr, by rw [h0, pw_zr]⟩
  · obtain ⟨_, y, hy, e, _⟩ := oq_at c hx h0
    obtain ⟨j, hj⟩ : ∃ j, oC c x = k + j := ⟨oC c x - k, by have := h h0; omega⟩
    exact ⟨pw c j y, pw_fs c hy j, by rw [← pw_add, ← hj]; exact e⟩
theorem Ge.mu {c : Rat} {k : Nat} {x y : Po} (h : Ge c k x) (g : Mu x y) : Ge c k y := by
  obtain ⟨x1, fx, rfl⟩ := h
  have key : ∀ k, ∀ y, Mu (pw c k x1) y → Ge c k y := by
    intro k
    induction k with
    | zero => exact fun y hy => ⟨y, fx.mu hy, rfl⟩
    | succ k ih =>
      intro y hy
      obtain ⟨z, hz, e⟩ := mu_ln hy
      obtain ⟨w, fw, e2⟩ := ih z hz
      exact ⟨w, fw, by rw [e, e2]; rfl⟩
  exact key k y g
noncomputable def jc (c : Rat) (x y : Po) : Int := if oC c y < oC c x then ep (oCi c) (qC c) x y else 0
theorem jc_yes {c : Rat} {x y : Po} (h : y ≠ zr ∧ oC c y < oC c x) : jc c x y = ep (oCi c) (qC c) x y := by
  unfold jc
  rw [if_pos h.2]
theorem jc_no {c : Rat} {x y : Po} (h : ¬ (y ≠ zr ∧ oC c y < oC c x)) : jc c x y = 0 := by
  unfold jc
  by_cases h1 : oC c y < oC c x
  · have e : y = zr := Classical.byContradiction fun k => h ⟨k, h1⟩
    rw [e, (vlC c).nil, ite_self]
  · rw [if_neg h1]
theorem jc_zr (c : Rat) (x : Po) : jc c x zr = 0 := jc_no (fun h => h.1 rfl)
theorem jc_add (c : Rat) {x y z : Po} (hx : Fs x) (hy : Fs y) (hz : Fs z) (hx0 : x ≠ zr) (h : Mu x (sb z y)) : jc c x z = jc c x y := by
  have gx : Ge c (oC c x) x := .of hx (fun _ => Nat.le_refl _)
  have gm := gx.mu h
  have key : ∀ y z : Po, Fs y → Fs z → Ge c (oC c x) (sb z y) → y ≠ zr → oC c y < oC c x → (z ≠ zr ∧ oC c z < oC c x) ∧ ep (oCi c) (qC c) x z = ep (oCi c) (qC c) x y := by
    intro y z hy hz gm hy0 hl
    by_cases hs : sb z y = zr
    · have e : z = y := by
        funext i
        have := congrFun hs i
        simp only [sb, zr] at this
        grind
      rw [e]
      exact ⟨⟨hy0, hl⟩, rfl⟩
    · have h2 := gm.oc hs
      have e : z = ad y (sb z y) := by funext i; simp only [sb, ad]; grind
      have h3 := at_oq ((oq_at c hy hy0).lt (oq_at c (hz.sb hy) hs) (by omega))
      rw [← e] at h3
      have hz0 : z ≠ zr := by
        intro e0
        have := (oq_at c hy hy0).1
        rw [← h3.2, e0, qC_zr] at this
        exact this rfl
      refine ⟨⟨hz0, by omega⟩, ?_⟩
      rw [ep_comm, ep_comm x y]
      refine ep_cong ?_ h3.2
      unfold oCi
      rw [h3.1]
  have gm' : Ge c (oC c x) (sb y z) := by
    have e : sb y z = sm (-1) (sb z y) := by funext i; simp only [sb, sm]; grind
    rw [e]
    exact gm.mu ((Mu.self _).sm _)
  by_cases h1 : y ≠ zr ∧ oC c y < oC c x
  · obtain ⟨h2, h3⟩ := key y z hy hz gm h1.1 h1.2
    rw [jc_yes h1, jc_yes h2, h3]
  · by_cases h2 : z ≠ zr ∧ oC c z < oC c x
    · exact absurd (key z y hz hy gm' h2.1 h2.2).1 h1
    · rw [jc_no h1, jc_no h2]
theorem jc_turn (c : Rat) {x y : Po} (hx0 : x ≠ zr) (hy0 : y ≠ zr) : jc c x y + jc c y x = ep (oCi c) (qC c) x y := by
  rcases Nat.lt_trichotomy (oC c x) (oC c y) with h | h | h
  · rw [jc_no (fun k => by omega), jc_yes ⟨hx0, h⟩, ep_comm]
    omega
  · rw [jc_no (fun k => by omega), jc_no (fun k => by omega), ep_even (by unfold oCi; rw [h])]
    rfl
  · rw [jc_yes ⟨hy0, h⟩, jc_no (fun k => by omega)]
    omega
theorem jc_smr (c k : Rat) {x y : Po} (hy : Fs y) : jc c x (sm k y) = sgn1 k * jc c x y := by
  by_cases hk : k = 0
  · have : sm k y = zr := by funext i; simp only [sm, zr]; rw [hk, Rat.zero_mul]
    rw [this, jc_zr, hk, sgn_zero, Int.zero_mul]
  · by_cases hy0 : y = zr
    · rw [hy0, sm_zr, jc_zr, Int.mul_zero]
    · have h1 := at_oq ((oq_at c hy hy0).sm hk)
      unfold jc
      rw [h1.1, (vlC c).esm x y k hy]
      by_cases h : oC c y < oC c x
      · rw [if_pos h, if_pos h]
      · rw [if_neg h, if_neg h, Int.mul_zero]
noncomputable def jo (c : Rat) (x y : Po) : Int := if len x = 0 then 0 else idx x y - jc c x y
theorem jo_nil (c : Rat) {x : Po} (y : Po) (h : x = zr) : jo c x y = 0 := by
  unfold jo
  rw [if_pos (by rw [h, len_zr])]
theorem jo_is (c : Rat) {x : Po} (y : Po) (hx : Fs x) (h : x ≠ zr) : jo c x y = idx x y - jc c x y := by
  unfold jo
  rw [if_neg (fun e => h ((len_eq_0 hx).1 e))]
noncomputable def eo (c : Rat) (x y : Po) : Int := eps x y - ep (oCi c) (qC c) x y
theorem unit_ln {c a b : Rat} (h : b - a * c ≠ 0) {x : Po} (hx : Fs x) (h0 : x ≠ zr) : oCi c (ln a b x) = oCi c x ∧ qC c (ln a b x) = (b - a * c) * qC c x ∧ ln a b x ≠ zr := by
  have e : ln a b x = ad (sm (b - a * c) x) (sm a (ln 1 c x)) := by
    funext i
    show ln a b x i = (b - a * c) * x i + a * ln 1 c x i
    rw [ln_at, ln_at]
    grind
  have h1 := (oq_at c hx h0).sm h
  have h2 : At c (ln a b x) (oC c x) ((b - a * c) * qC c x) := by
    rw [e]
    by_cases ha : a = 0
    · have e2 : sm a (ln 1 c x) = zr := by funext i; show a * _ = 0; rw [ha, Rat.zero_mul]
      rw [e2, ad_zr]
      exact h1
    · exact h1.lt ((oq_at c hx h0).ln.sm ha) (by omega)
  obtain ⟨h3, h4⟩ := at_oq h2
  refine ⟨by unfold oCi; rw [h3], h4, fun e0 => ?_⟩
  rw [e0] at h2
  exact at_not c _ _ h2
theorem ep_unit {c a b : Rat} (h : b - a * c ≠ 0) (x y : Po) (hx : Fs x) : ep (oCi c) (qC c) (ln a b x) y = sgn1 (b - a * c) * ep (oCi c) (qC c) x y := by
  by_cases h0 : x = zr
  · rw [h0, ln_zr, ep_comm, (vlC c).nil, Int.mul_zero]
  · obtain ⟨h1, h2, _⟩ := unit_ln h hx h0
    unfold ep
    rw [h1, h2, sgn_mul]
    split
    · rw [Int.mul_assoc]
    · rw [Int.mul_zero]
theorem eC_q3 (c : Rat) (y z : Po) (α β d : Rat) (hy : Fs y) (hz : Fs z) (hα : α ≠ 0) (hd : d = (c - β / α) * (c - β / α) + 0 * 0) (hd0 : d ≠ 0) :
    ep (oCi c) (qC c) y (sb (ln α β y) z) + ep (oCi c) (qC c) y z = ep (oCi c) (qC c) (sb (ln α β y) z) (ad (sm d y) (ln α⁻¹ (α⁻¹ * (2 * c - β / α)) z)) + ep (oCi c) (qC c) (ad (sm d y) (ln α⁻¹ (α⁻¹ * (2 * c - β / α)) z)) z := by
  have V := vlC c
  have hi := Rat.inv_mul_cancel α hα
  have hi0 : α⁻¹ ≠ 0 := fun e => by rw [e] at hi; grind
  have hdp := d_pos (a := 0) hd hd0
  obtain ⟨k, hk⟩ : ∃ k, k = β / α := ⟨_, rfl⟩
  have hkc : c - k ≠ 0 := fun e => hd0 (by rw [hd, ← hk, e]; decide +kernel)
  have s1 := split1 (c := c) (a := 0) hα hd y z
  obtain ⟨u, hu⟩ : ∃ u, u = sb (ln α β y) z := ⟨_, rfl⟩
  obtain ⟨v, hv⟩ : ∃ v, v = ad (sm d y) (ln α⁻¹ (α⁻¹ * (2 * c - β / α)) z) := ⟨_, rfl⟩
  have fu : Fs u := by rw [hu]; exact (hy.ln α β).sb hz
  have fv : Fs v := by rw [hv]; exact (hy.sm d).ad (hz.ln _ _)
  rw [← hu, ← hv] at s1 ⊢
  have hr : α⁻¹ * (2 * c - β / α) - α⁻¹ * c = α⁻¹ * (c - k) := by rw [hk]; grind
  have hr0 : α⁻¹ * (2 * c - β / α) - α⁻¹ * c ≠ 0 := by
    rw [hr]
    intro e
    rcases Rat.mul_eq_zero.1 e with e | e
    · exact hi0 e
    · exact hkc e
  obtain ⟨σ, hσ⟩ : ∃ σ, σ = sgn1 (α⁻¹ * (2 * c - β / α) - α⁻¹ * c) := ⟨_, rfl⟩
  have hσ2 : σ * σ = 1 := by rw [hσ]; exact sgn_sq hr0
  -- D y is v and what u is times with
  have t1 := V.tri v (ln α⁻¹ (α⁻¹ * (2 * c - β / α)) u) fv (fu.ln _ _)
  have e1 : ad v (ln α⁻¹ (α⁻¹ * (2 * c - β / α)) u) = dq c 0 y := by
    rw [← s1]
    funext i
    simp only [ad, sb]
    grind
  rw [e1] at t1
  have eD : ∀ x, ep (oCi c) (qC c) (dq c 0 y) x = ep (oCi c) (qC c) y x := by
    intro x
    by_cases hy0 : y = zr
    · rw [hy0, dq_zr]
    · have e2 : dq c 0 y = ln 1 c (ln 1 c y) := by
        unfold dq
        funext i
        show ln 1 c (ln 1 c y) i + 0 * 0 * y i = _
        grind
      rw [e2, V.ln2 y x hy hy0]
  rw [eD, eD, ep_comm y (ln _ _ u), ep_unit hr0 u y fu, ep_comm v (ln _ _ u), ep_unit hr0 u v fu, ← hσ] at t1
  have t2 := V.tri (sm d y) (ln α⁻¹ (α⁻¹ * (2 * c - β / α)) z) (hy.sm d) (hz.ln _ _)
  have sd := sgn_pos hdp
  rw [← hv, V.esm v y d hy, sd, Int.one_mul, ep_comm v (ln _ _ z), ep_unit hr0 z v hz, V.esml y _ d hy, sd, Int.one_mul, ep_comm y (ln _ _ z), ep_unit hr0 z y hz, ← hσ] at t2
  rw [ep_comm y u, ep_comm y z]
  rw [ep_comm y v] at t1
  rw [ep_comm v z]
  have h1 : σ * σ * ep (oCi c) (qC c) u v = σ * ep (oCi c) (qC c) v y + σ * σ * ep (oCi c) (qC c) u y := by
    rw [Int.mul_assoc, ← t1, Int.mul_add, Int.mul_assoc]
  have h2 : σ * σ * ep (oCi c) (qC c) z y = σ * ep (oCi c) (qC c) v y + σ * σ * ep (oCi c) (qC c) z v := by
    rw [Int.mul_assoc, ← t2, Int.mul_add, Int.mul_assoc]
  rw [hσ2] at h1 h2
  omega
theorem indC (c : Rat) : Ind c 0 (jo c) (eo c) where
  add := fun x y z hx hy hz h => by
    by_cases h0 : x = zr
    · rw [jo_nil c _ h0, jo_nil c _ h0]
    · rw [jo_is c _ hx h0, jo_is c _ hx h0, idx_add hx hy hz h, jc_add c hx hy hz h0 h]
  smr := fun x y k hx hy => by
    by_cases h0 : x = zr
    · rw [jo_nil c _ h0, jo_nil c _ h0, Int.mul_zero]
    · rw [jo_is c _ hx h0, jo_is c _ hx h0, idx_smr hx hy, jc_smr c k hy, Int.mul_sub]
  turn := fun x y hx hy hx0 hy0 => by
    unfold eo
    rw [jo_is c _ hx hx0, jo_is c _ hy hy0, ← idx_turn hx hy hx0 hy0, ← jc_turn c hx0 hy0]
    omega
  comm := fun x y => by unfold eo; rw [eps_comm, ep_comm]
  esm := fun x y k _ hy => by unfold eo; rw [eps_sm hy, (vlC c).esm x y k hy, Int.mul_sub]
  edq := fun x y hx _ h0 => by
    unfold eo
    have e2 : dq c 0 x = ln 1 c (ln 1 c x) := by
      unfold dq
      funext i
      show ln 1 c (ln 1 c x) i + 0 * 0 * x i = _
      grind
    rw [eps_dq c 0 x y hx h0, e2, (vlC c).ln2 x y hx h0]
  tri := fun u z hu hz => by
    unfold eo
    have h1 := (vlI c).tri u z hu hz
    rw [← eps_ep, ← eps_ep, ← eps_ep] at h1
    have h2 := (vlC c).tri u z hu hz
    omega
  q3 := fun y z α β d hy hz hy0 hl hα hd hd0 => by
    unfold eo
    have h1 := eps_q3 y z α β d (α⁻¹ * (2 * c - β / α)) hy hz hy0 hl hα (d_pos hd hd0)
    have h2 := eC_q3 c y z α β d hy hz hα hd hd0
    omega
  q4 := fun _ y z α hy hz hy0 hl hα => by
    unfold eo
    have e : sb (ln α (α * c) y) z = ad (sm α (ln 1 c y)) (sm (-1) z) := by
      funext i
      show ln α (α * c) y i - z i = α * ln 1 c y i + -1 * z i
      rw [ln_at, ln_at]
      grind
    rw [e]
    have h1 := (vlI c).q4 y z α hy hz hy0 hα
    rw [← eps_ep, ← eps_ep, ← eps_ep] at h1
    have h2 := (vlC c).q4 y z α hy hz hy0 hα
    rw [Int.mul_sub]
    omega
  q5 := fun _ y r ρ hy hr hy0 hl hρ => by
    unfold eo
    have h1 := (vlI c).q5 y r ρ hy hr hy0 hρ
    rw [← eps_ep, ← eps_ep, ← eps_ep] at h1
    have h2 := (vlC c).q5 y r ρ hy hr hy0 hρ
    rw [Int.mul_sub]
    omega
theorem idx_pole (c : Rat) {f v : Po} {κ : Rat} (hf : Fs f) (hv : Fs v) (h0 : ev c f ≠ 0) (hκ : κ ≠ 0) : idx (ln 1 c f) (ad (sm κ f) (ln 1 c v)) = idx f v + sgn1 κ := by
  have hA : At c f 0 (ev c f) := ⟨h0, f, hf, rfl, rfl⟩
  have hf0 : f ≠ zr := fun e => by rw [e] at hA; exact at_not c _ _ hA
  have hl0 := ln_ne (a := 1) c (by decide) hf hf0
  have h := ((indC c).both (len f)).2 rfl f v κ hf hv hf0 hκ (Nat.le_refl _)
  rw [jo_is c _ (hf.ln 1 c) hl0, jo_is c _ hf hf0] at h
  have h1 : jc c f v = 0 := by
    refine jc_no (fun e => ?_)
    rw [(at_oq hA).1] at e
    exact Nat.not_lt_zero _ e.2
  have hB : At c (ln 1 c f) 1 (ev c f) := hA.ln
  have hC : At c (ad (sm κ f) (ln 1 c v)) 0 (κ * ev c f) := by
    by_cases hv0 : v = zr
    · rw [hv0, ln_zr, ad_zr]
      exact hA.sm hκ
    · exact (hA.sm hκ).lt (oq_at c hv hv0).ln (by omega)
  have h2 : jc c (ln 1 c f) (ad (sm κ f) (ln 1 c v)) = sgn1 κ := by
    have hn : ad (sm κ f) (ln 1 c v) ≠ zr := fun e => by rw [e] at hC; exact at_not c _ _ hC
    rw [jc_yes ⟨hn, by rw [(at_oq hB).1, (at_oq hC).1]; omega⟩]
    unfold ep oCi
    rw [(at_oq hB).1, (at_oq hB).2, (at_oq hC).1, (at_oq hC).2, if_pos (by decide), sgn_mul, Int.mul_comm (sgn1 κ), ← Int.mul_assoc, sgn_sq h0, Int.one_mul]
  omega
end Go.Proofs.YtklkpkkjakllfaaGreatDoor.K
