/- frac: guess, takeAway, giveBack. -/
import Derived.Test.YtgdiepfknfnmjaaGreatDoorMFa
namespace Go.Proofs.YtgdiepfknfnmjaaGreatDoor
open Go.RowKit

/-- The guess, on its way. -/
def GuessR (hh vt U V : Nat) (gv rv : Value) : Prop := ∃ g r : Nat, gv = .int .u64 g ∧ rv = .int .u64 r ∧ r < 4294967296 ∧ g < 18446744073709551616 ∧ Hid (g * vt + r = hh ∧ U / V ≤ g)
/-- What guess answers. -/
def Guessed (U V : Nat) (w : World) (e : Ending) (w' : World) : Prop := ∃ g q : Nat, e = .returned (.int .u64 (g : Nat)) ∧ g < 4294967296 ∧ U / V ≤ g ∧ g ≤ U / V + 1 ∧ w' = w.drewN q

set_option maxHeartbeats 2000000 in
set_option maxRecDepth 10000 in
theorem guess_ws (xv yv : Value) (W vs : List Nat) (n : Nat) (w : World) (hx : Ws w xv W) (hy : Ws w yv vs) (hn : vs.length = n + 2) (hW : W.length = n + 3) (ht : 2147483648 ≤ vs.getD (n + 1) 0) (hlt : val W < 4294967296 * val vs) :
    Calls Tryz.prog 124 #[xv, yv] w fun e w' => Guessed (val W) (val vs) w e w' := by
  have ht' : 2147483648 ≤ vs[n + 1] := by
    have e : vs.getD (n + 1) 0 = vs[n + 1] := by simp [List.getD, hn]
    omega
  have kd := kd_of vs W n hn hW hy.sm hx.sm ht' hlt
  obtain ⟨ao, ca, ea, hca, hca', Ha⟩ := hx.open
  obtain ⟨bo, cb, eb, hcb, hcb', Hb⟩ := hy.open
  obtain ⟨b1, o1, rfl, hb1, c1⟩ := Ha (n + 2) (by omega)
  obtain ⟨_, _, e2, _, c2⟩ := Ha (n + 1) (by omega)
  obtain ⟨_, _, e3, _, c3⟩ := Ha n (by omega)
  simp only [Option.some.injEq, Addr.mk.injEq, and_true] at e2 e3
  obtain ⟨rfl, rfl⟩ := e2
  obtain ⟨rfl, rfl⟩ := e3
  obtain ⟨b2, o2, rfl, hb2, c4⟩ := Hb (n + 1) (by omega)
  obtain ⟨_, _, e5, _, c5⟩ := Hb n (by omega)
  simp only [Option.some.injEq, Addr.mk.injEq, and_true] at e5
  obtain ⟨rfl, rfl⟩ := e5
  have B1 := hx.sm.get (n + 2) (by omega)
  have B2 := hx.sm.get (n + 1) (by omega)
  have B3 := hx.sm.get n (by omega)
  have B4 := hy.sm.get (n + 1) (by omega)
  have B5 := hy.sm.get n (by omega)
  generalize W[n + 2] = ua at c1 kd B1
  generalize W[n + 1] = ub at c2 kd B2
  generalize W[n] = uc at c3 kd B3
  generalize vs[n + 1] = vt at c4 kd ht' B4
  generalize vs[n] = vn at c5 kd B5
  have KD := hide kd
  rw [hW] at ea hca
  rw [hn] at eb hcb
  subst ea eb
  unfold maxLen at hca' hcb'
  have hor := or_word ua ub B1 B2
  obtain ⟨hh, eh⟩ : ∃ h, h = ua * 4294967296 + ub := ⟨_, rfl⟩
  rw [← eh] at hor
  have EH := hide eh
  have hhb : hh < 18446744073709551616 := by omega
  have hvt0 : ((vt : Int) == 0) = false := beq_eq_false_iff_ne.2 (by omega)
  have hdm : hh / vt * vt + hh % vt = hh := by rw [Nat.mul_comm]; exact Nat.div_add_mod hh vt
  have hrm := Nat.mod_lt hh (show 0 < vt by omega)
  have hqb : hh / vt ≤ hh := Nat.div_le_self _ _
  obtain ⟨Q, eQ⟩ : ∃ q, q = hh / vt := ⟨_, rfl⟩
  obtain ⟨R, eR⟩ : ∃ r, r = hh % vt := ⟨_, rfl⟩
  rw [← eQ, ← eR] at hdm
  rw [← eR] at hrm
  rw [← eQ] at hqb
  have eQ' : (hh : Int) / (vt : Int) = (Q : Int) := by rw [eQ, Int.natCast_ediv]
  have eR' : (hh : Int) % (vt : Int) = (R : Int) := by rw [eR, Int.natCast_emod]
  have eQ2 : (hh : Int).tdiv (vt : Int) = (Q : Int) := by rw [Int.tdiv_eq_ediv_of_nonneg (by omega)]; exact eQ'
  have eR2 : (hh : Int).tmod (vt : Int) = (R : Int) := by rw [Int.tmod_eq_emod_of_nonneg (by omega)]; exact eR'
  have hinit : val W / val vs ≤ Q := by rw [eQ, eh]; exact kd.init
  have HIN := hide (And.intro hdm hinit)
  clear Ha Hb hx hy ht hlt kd eh eQ eR hdm hinit hn hW
  go_enter Tryz.func124, Tryz.ntmps124
  go_wp2
  go_quiet (fail)
  go_wp2
  go_quiet (fail)
  go_wp2
  go_quiet (fail)
  go_wp2
  go_loop [9, 10] (fun gv rv => GuessR hh vt (val W) (val vs) gv rv) (fun gv _ => (intOf gv).toNat)
  case atStart => exact ⟨Q, R, by first | rfl | rw [eQ'] | rw [eQ2], by first | rfl | rw [eR'] | rw [eR2], by omega, by omega, HIN.out⟩
  case round =>
    clear HIN eQ' eR' eQ2 eR2 hrm hqb hor
    obtain ⟨g, r, rfl, rfl, hr, hg, HI⟩ := hrel
    have hor := or_word r uc hr B3
    obtain ⟨m, em⟩ : ∃ x, x = r * 4294967296 + uc := ⟨_, rfl⟩
    rw [← em] at hor
    have EM := hide em
    have hmb : m < 18446744073709551616 := by omega
    clear em
    by_cases hbig : 4294967296 ≤ g
    · have HQ := hide (KD.out.keep (by rw [← EH.out]; exact HI.out.1) (.inl hbig))
      have hg1 : 1 ≤ g := by omega
      by_cases hbr : r + vt < 4294967296
      · go_wp2
        go_round
        case rel => exact ⟨g - 1, r + vt, by go_num, by go_num, hbr, by omega, guess_down HI.out.1 hg1, by have := HQ.out; omega⟩
        case measure => simp [intOf]; omega
      · go_wp2
        go_ret
        have hb := KD.out.brk (by rw [← EH.out]; exact guess_down HI.out.1 hg1) (Nat.le_of_not_lt hbr)
        refine ⟨g - 1, _, by go_num, hb.1, by have := HQ.out; omega, KD.out.exit (by rw [← EH.out]; exact guess_down HI.out.1 hg1) hb.1 hb.2, by first | rfl | (simp only [World.drewN_drewN]; rfl)⟩
    · have hp : (g : Int) * (vn : Int) ≤ 18446744065119617025 := mul_bd g vn (by omega) B5
      have hp0 : 0 ≤ (g : Int) * (vn : Int) := Int.mul_nonneg (by omega) (by omega)
      by_cases ht : m < g * vn
      · have ht' : (m : Int) < (g : Int) * (vn : Int) := by rw [← Int.natCast_mul]; omega
        have HQ := hide (KD.out.keep (by rw [← EH.out]; exact HI.out.1) (.inr (by rw [← EM.out]; exact ht)))
        have hg1 : 1 ≤ g := Nat.lt_of_le_of_lt (Nat.zero_le _) HQ.out
        clear ht
        by_cases hbr : r + vt < 4294967296
        · go_wp2
          go_round
          case rel => exact ⟨g - 1, r + vt, by go_num, by go_num, hbr, by omega, guess_down HI.out.1 hg1, by have := HQ.out; omega⟩
          case measure => simp [intOf]; omega
        · go_wp2
          go_ret
          have hb := KD.out.brk (by rw [← EH.out]; exact guess_down HI.out.1 hg1) (Nat.le_of_not_lt hbr)
          refine ⟨g - 1, _, by go_num, hb.1, by have := HQ.out; omega, KD.out.exit (by rw [← EH.out]; exact guess_down HI.out.1 hg1) hb.1 hb.2, by first | rfl | (simp only [World.drewN_drewN]; rfl)⟩
      · have ht' : ¬ (m : Int) < (g : Int) * (vn : Int) := by rw [← Int.natCast_mul]; omega
        have HT' := hide ht
        clear ht
        go_wp2
        go_ret
        refine ⟨g, _, rfl, by omega, HI.out.2, KD.out.exit (by rw [← EH.out]; exact HI.out.1) (by omega) (by have := HT'.out; rw [← EM.out]; omega), by first | rfl | (simp only [World.drewN_drewN]; rfl)⟩

/-- Inside takeAway: k words are done, c is owed. -/
def TakeInv (w wr : World) (gu : Nat) (us vs : List Nat) (j g k c : Nat) : Prop :=
  ∃ mid : List Nat, mid.length = k ∧ Sm mid ∧ Arr wr gu (us.take j ++ mid ++ us.drop (j + k)) ∧ w.grownBy wr (some gu) ∧ val mid + g * val (vs.take k) = val ((us.drop j).take k) + 4294967296 ^ k * c

theorem win_cell {wr : World} {gu : Nat} {us mid : List Nat} {j k : Nat} (h3 : Arr wr gu (us.take j ++ mid ++ us.drop (j + k))) (h1 : mid.length = k) (hj : j + k < us.length) : wr.cell? ⟨gu, j + k, none⟩ = some (.int .u32 (us[j + k] : Nat)) := by
  have hg := win_get us mid j k h1 hj
  obtain ⟨h4, h5⟩ := List.getElem?_eq_some_iff.1 hg
  have := h3.cell (j + k) h4
  rw [h5] at this
  exact this

theorem TakeInv.at {w wr : World} {gu : Nat} {us vs : List Nat} {j g k c : Nat} (h : TakeInv w wr gu us vs j g k c) (hk : k < vs.length) (hj : j + k < us.length) :
    wr.cell? ⟨gu, j + k, none⟩ = some (.int .u32 (us[j + k] : Nat)) ∧ wr.frozen? ⟨gu, j + k, none⟩ = false ∧
    ∀ (x e v : Nat) (z : Int), z = (x : Int) → x < 4294967296 → v = vs[k] → x + (c + g * v) % 4294967296 = us[j + k] + 4294967296 * e →
      TakeInv w (wr.setCell ⟨gu, j + k, none⟩ (.int .u32 z)) gu us vs j g (k + 1) ((c + g * v) / 4294967296 + e) := by
  obtain ⟨mid, h1, h2, h3, h4, h5⟩ := h
  refine ⟨win_cell h3 h1 hj, h3.free _, ?_⟩
  intro x e v z hz hx hv hs
  refine ⟨mid ++ [x], by simp [h1], h2.append (Sm.cons hx Sm.nil), ?_, gr_row h4 gu _ _ rfl, ?_⟩
  · have := h3.set (j + k) x
    rw [win_set us mid j k x h1 hj] at this
    rw [hz]
    exact this
  · rw [val_snoc, h1, val_take_succ vs k hk, val_take_succ (us.drop j) k (by rw [List.length_drop]; omega), List.getElem_drop, Nat.pow_succ, ← hv]
    have e1 := Nat.mod_add_div (c + g * v) 4294967296
    generalize (c + g * v) % 4294967296 = lo at hs e1
    generalize (c + g * v) / 4294967296 = hi at e1 ⊢
    generalize us[j + k] = u at hs ⊢
    generalize 4294967296 ^ k = p at h5 ⊢
    rw [Nat.mul_add g, Nat.mul_left_comm g p v]
    have e2 : p * x + p * lo = p * u + p * (4294967296 * e) := by
      rw [← Nat.mul_add, ← Nat.mul_add, hs]
    have e3 : p * lo + p * (4294967296 * hi) = p * c + p * (g * v) := by
      rw [← Nat.mul_add, ← Nat.mul_add, e1]
    rw [Nat.mul_assoc, Nat.mul_add 4294967296, Nat.mul_add p]
    omega

/-- The highest word: what was too much. -/
theorem TakeInv.top {w wr : World} {gu : Nat} {us vs : List Nat} {j g c : Nat} (h : TakeInv w wr gu us vs j g vs.length c) (hj : j + vs.length < us.length) :
    wr.cell? ⟨gu, j + vs.length, none⟩ = some (.int .u32 (us[j + vs.length] : Nat)) ∧ wr.frozen? ⟨gu, j + vs.length, none⟩ = false ∧
    ∀ (x e : Nat) (z : Int), z = (x : Int) → x < 4294967296 → x + c = us[j + vs.length] + 4294967296 * e →
    ∃ W : List Nat, W.length = vs.length + 1 ∧ Sm W ∧ Arr (wr.setCell ⟨gu, j + vs.length, none⟩ (.int .u32 z)) gu (us.take j ++ W ++ us.drop (j + (vs.length + 1))) ∧
      w.grownBy (wr.setCell ⟨gu, j + vs.length, none⟩ (.int .u32 z)) (some gu) ∧ val W + g * val vs = val ((us.drop j).take (vs.length + 1)) + 4294967296 ^ (vs.length + 1) * e ∧ W[vs.length]? = some x := by
  obtain ⟨mid, h1, h2, h3, h4, h5⟩ := h
  refine ⟨win_cell h3 h1 hj, h3.free _, ?_⟩
  intro x e z hz hx hs
  refine ⟨mid ++ [x], by simp [h1], h2.append (Sm.cons hx Sm.nil), ?_, gr_row h4 gu _ _ rfl, ?_, by rw [List.getElem?_append_right (by omega)]; simp [h1]⟩
  · have := h3.set (j + vs.length) x
    rw [win_set us mid j vs.length x h1 hj] at this
    rw [hz]
    exact this
  · rw [List.take_of_length_le (Nat.le_refl vs.length)] at h5
    rw [val_snoc, h1, val_take_succ (us.drop j) vs.length (by rw [List.length_drop]; omega), List.getElem_drop, Nat.pow_succ]
    generalize us[j + vs.length] = u at hs ⊢
    generalize 4294967296 ^ vs.length = p at h5 ⊢
    have e2 : p * x + p * c = p * u + p * (4294967296 * e) := by
      rw [← Nat.mul_add, ← Nat.mul_add, hs]
    rw [Nat.mul_assoc p]
    omega

/-- What takeAway leaves. -/
def Taken (w w' : World) (gu : Nat) (us vs : List Nat) (j g E : Nat) : Prop :=
  ∃ W : List Nat, W.length = vs.length + 1 ∧ Sm W ∧ Arr w' gu (us.take j ++ W ++ us.drop (j + (vs.length + 1))) ∧ w.grownBy w' (some gu) ∧ val W + g * val vs = val ((us.drop j).take (vs.length + 1)) + 4294967296 ^ (vs.length + 1) * E

theorem wrap_sub32 (u lo : Nat) (hu : u < 4294967296) (hlo : lo < 4294967296) : ∃ x : Nat, IntKind.u32.wrap ((u : Int) - (lo : Int)) = (x : Int) ∧ x < 4294967296 ∧ x + lo = u + 4294967296 * (if u < lo then 1 else 0) := by
  rw [IntKind.wrap_u32]
  by_cases h : u < lo
  · exact ⟨4294967296 + u - lo, by omega, by omega, by rw [if_pos h]; omega⟩
  · exact ⟨u - lo, by omega, by omega, by rw [if_neg h]; omega⟩
end Go.Proofs.YtgdiepfknfnmjaaGreatDoor
