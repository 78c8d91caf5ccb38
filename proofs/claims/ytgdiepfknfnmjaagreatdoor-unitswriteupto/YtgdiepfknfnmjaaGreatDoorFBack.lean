/- frac: takeAway, giveBack. -/
import Derived.Test.YtgdiepfknfnmjaaGreatDoorFTake
namespace Go.Proofs.YtgdiepfknfnmjaaGreatDoor
open Go.RowKit
set_option linter.unusedVariables false

/-- takeAway's loop. -/
def TakeR (w : World) (gu : Nat) (us vs : List Nat) (j g : Nat) (cv iv : Value) (wr : World) : Prop :=
  ∃ k c : Nat, k ≤ vs.length ∧ c < 4294967296 ∧ iv = .int .i64 k ∧ cv = .int .u64 c ∧ Hid (TakeInv w wr gu us vs j g k c)

/-- What takeAway answers. -/
def TakeE (w : World) (gu : Nat) (us vs : List Nat) (j g : Nat) (e : Ending) (w' : World) : Prop := ∃ E : Nat, E ≤ 1 ∧ e = .returned (.bool (E == 1)) ∧ Taken w w' gu us vs j g E

theorem take_cast (g v c : Nat) (hg : g < 4294967296) (hv : v < 4294967296) (hc : c < 4294967296) : c + g * v < 18446744069414584321 := by
  have : g * v ≤ 4294967295 * 4294967295 := Nat.mul_le_mul (by omega) (by omega)
  omega

set_option maxHeartbeats 2000000 in
set_option maxRecDepth 10000 in
theorem takeAway_at (gu j cu : Nat) (us vs : List Nat) (yv : Value) (g : Nat) (w : World) (ha : Arr w gu us) (hy : Ws w yv vs) (su : Sm us) (hne : blockOf yv ≠ some gu) (hj : j + vs.length < us.length) (hg : g < 4294967296) (hl : us.length ≤ 1000000001) (hc1 : vs.length + 1 ≤ cu) (hc2 : cu ≤ maxLen) (hv0 : 0 < vs.length) :
    Calls Tryz.prog 125 #[.slice (some ⟨gu, j, none⟩) (vs.length + 1) cu, yv, .int .u64 (g : Nat)] w fun e w' => TakeE w gu us vs j g e w' := by
  obtain ⟨bo, cb, eb, hcb, hcb', Hb⟩ := hy.open
  unfold maxLen at hc2 hcb'
  have HB := hide Hb
  have SB := hide hy.sm
  have SU := hide su
  have HA := hide ha
  have hgu := ha.lt
  subst eb
  have HNE := hide hne
  clear Hb hy su ha hne
  go_enter Tryz.func125, Tryz.ntmps125
  go_wp2
  go_loopw [7, 14] (fun cv iv wr => TakeR w gu us vs j g cv iv wr) (fun _ iv _ => vs.length - (intOf iv).toNat)
  case atStart => exact ⟨0, 0, by omega, by omega, rfl, rfl, [], rfl, Sm.nil, by rw [List.append_nil, Nat.add_zero, List.take_append_drop]; exact HA.out, gr_refl _ _, by simp [val]⟩
  case round =>
    obtain ⟨k, c, hk, hc, rfl, rfl, HI⟩ := hrel
    by_cases hlt : k < vs.length
    · obtain ⟨b, off, rfl, hbl, hcell⟩ := unhide HB k hlt
      have hv := SB.out.get k hlt
      have hbg : b ≠ gu := by
        intro e
        exact HNE.out (by rw [e]; rfl)
      have hjk : j + k < us.length := by omega
      obtain ⟨hcu, hfr, hstep⟩ := HI.out.at hlt hjk
      have hu := SU.out.get (j + k) hjk
      have hgr : w.grownBy wr (some gu) := by obtain ⟨_, _, _, _, h4, _⟩ := HI.out; exact h4
      have hcv := hgr.cell hcell (by show some b ≠ some gu; intro e; exact hbg (by simpa using e))
      obtain ⟨v, ev⟩ : ∃ v, v = vs[k] := ⟨_, rfl⟩
      obtain ⟨u, eu⟩ : ∃ u, u = us[j + k] := ⟨_, rfl⟩
      rw [← ev] at hcv hv
      rw [← eu] at hcu hu
      have hp := take_cast g v c hg hv hc
      obtain ⟨T, eT⟩ : ∃ T, T = c + g * v := ⟨_, rfl⟩
      have eT' : (c : Int) + (g : Int) * (v : Int) = (T : Int) := by rw [eT, Int.natCast_add, Int.natCast_mul]
      have hp0 : (g : Int) * (v : Int) ≤ 18446744065119617025 := mul_bd g v hg hv
      have hp1 : 0 ≤ (g : Int) * (v : Int) := Int.mul_nonneg (by omega) (by omega)
      rw [← eT] at hp
      obtain ⟨x, hx1, hx2, hx3⟩ := wrap_sub32 u (T % 4294967296) hu (Nat.mod_lt _ (by decide))
      have HX := hide hx1
      have HST : Hid (∀ (e : Nat) (z : Int), z = (x : Int) → x + T % 4294967296 = u + 4294967296 * e → TakeInv w (wr.setCell ⟨gu, j + k, none⟩ (.int .u32 z)) gu us vs j g (k + 1) (T / 4294967296 + e)) := by
        intro e z hz hs
        rw [eT] at hs ⊢
        exact hstep x e v z hz hx2 ev (by rw [← eu]; exact hs)
      clear hstep ev eu eT HI hcell hx1 hgr HB
      by_cases hul : u < T % 4294967296
      · rw [if_pos hul] at hx3
        have HX3 := hide hx3
        clear hx3
        go_wp2
        go_roundw
        case rel => exact ⟨k + 1, T / 4294967296 + 1, by omega, by omega, by go_num, by go_num, HST.out 1 _ (by have := HX3.out; omega) (by have := HX3.out; omega)⟩
        case measure => simp [intOf]; omega
      · rw [if_neg hul] at hx3
        have HX3 := hide hx3
        clear hx3
        go_wp2
        go_roundw
        case rel => exact ⟨k + 1, T / 4294967296 + 0, by omega, by omega, by go_num, by simp, HST.out 0 _ (by have := HX3.out; omega) (by have := HX3.out; omega)⟩
        case measure => simp [intOf]; omega
    · obtain rfl : k = vs.length := by omega
      obtain ⟨hcu, hfr, htop⟩ := HI.out.top hj
      have hu := SU.out.get (j + vs.length) hj
      obtain ⟨u, eu⟩ : ∃ u, u = us[j + vs.length] := ⟨_, rfl⟩
      rw [← eu] at hcu hu
      obtain ⟨x, hx1, hx2, hx3⟩ := wrap_sub32 u c hu hc
      have HTOP : Hid (∀ (e : Nat) (z : Int), z = (x : Int) → x + c = u + 4294967296 * e → Taken w (wr.setCell ⟨gu, j + vs.length, none⟩ (.int .u32 z)) gu us vs j g e) := by
        intro e z hz hs
        obtain ⟨W, k1, k2, k3, k4, k5, _⟩ := htop x e z hz hx2 (by rw [← eu]; exact hs)
        exact ⟨W, k1, k2, k3, k4, k5⟩
      clear htop eu hx1 HI HB
      by_cases hul : u < c
      · rw [if_pos hul] at hx3
        have HX3 := hide hx3
        clear hx3
        go_wp2
        go_ret
        exact ⟨1, by omega, rfl, HTOP.out 1 _ (by have := HX3.out; omega) HX3.out⟩
      · rw [if_neg hul] at hx3
        have HX3 := hide hx3
        clear hx3
        go_wp2
        go_ret
        exact ⟨0, by omega, rfl, HTOP.out 0 _ (by have := HX3.out; omega) HX3.out⟩

/-- Inside giveBack: the divisor is given back, word by word. -/
def GiveInv (w wr : World) (gu : Nat) (us vs : List Nat) (j k c : Nat) : Prop :=
  ∃ mid : List Nat, mid.length = k ∧ Sm mid ∧ Arr wr gu (us.take j ++ mid ++ us.drop (j + k)) ∧ w.grownBy wr (some gu) ∧ val mid + 4294967296 ^ k * c = val ((us.drop j).take k) + val (vs.take k)

theorem GiveInv.at {w wr : World} {gu : Nat} {us vs : List Nat} {j k c : Nat} (h : GiveInv w wr gu us vs j k c) (hk : k < vs.length) (hj : j + k < us.length) :
    wr.cell? ⟨gu, j + k, none⟩ = some (.int .u32 (us[j + k] : Nat)) ∧ wr.frozen? ⟨gu, j + k, none⟩ = false ∧
    ∀ (z : Int), z = (((c + us[j + k] + vs[k]) % 4294967296 : Nat) : Int) → GiveInv w (wr.setCell ⟨gu, j + k, none⟩ (.int .u32 z)) gu us vs j (k + 1) ((c + us[j + k] + vs[k]) / 4294967296) := by
  obtain ⟨mid, h1, h2, h3, h4, h5⟩ := h
  refine ⟨win_cell h3 h1 hj, h3.free _, ?_⟩
  intro z hz
  refine ⟨mid ++ [(c + us[j + k] + vs[k]) % 4294967296], by simp [h1], h2.snoc _, ?_, gr_row h4 gu _ _ rfl, ?_⟩
  · have := h3.set (j + k) ((c + us[j + k] + vs[k]) % 4294967296)
    rw [win_set us mid j k _ h1 hj] at this
    rw [hz]
    exact this
  · rw [add_step mid k c us[j + k] vs[k] _ _ h1 h5, val_take_succ vs k hk, val_take_succ (us.drop j) k (by rw [List.length_drop]; omega), List.getElem_drop]

/-- Given back: the window holds the rest. -/
theorem GiveInv.top {w wr : World} {gu : Nat} {us vs : List Nat} {j c R : Nat} (h : GiveInv w wr gu us vs j vs.length c) (hj : j + vs.length < us.length)
    (hW : val ((us.drop j).take (vs.length + 1)) + val vs = R + 4294967296 ^ (vs.length + 1)) (hR : R < 4294967296 ^ vs.length) :
    wr.cell? ⟨gu, j + vs.length, none⟩ = some (.int .u32 (us[j + vs.length] : Nat)) ∧ wr.frozen? ⟨gu, j + vs.length, none⟩ = false ∧
    ∀ z : Int, z = (((us[j + vs.length] + c) % 4294967296 : Nat) : Int) →
    ∃ W : List Nat, W.length = vs.length + 1 ∧ Sm W ∧ Arr (wr.setCell ⟨gu, j + vs.length, none⟩ (.int .u32 z)) gu (us.take j ++ W ++ us.drop (j + (vs.length + 1))) ∧ w.grownBy (wr.setCell ⟨gu, j + vs.length, none⟩ (.int .u32 z)) (some gu) ∧ val W = R := by
  obtain ⟨mid, h1, h2, h3, h4, h6⟩ := h
  refine ⟨win_cell h3 h1 hj, h3.free _, ?_⟩
  intro z hz
  rw [List.take_of_length_le (Nat.le_refl vs.length)] at h6
  rw [val_take_succ (us.drop j) vs.length (by rw [List.length_drop]; omega), List.getElem_drop, Nat.pow_succ] at hW
  have hm := val_lt h2
  rw [h1] at hm
  generalize us[j + vs.length] = x at hW hz
  have hxc : x + c = 4294967296 ∧ val mid = R := by
    generalize 4294967296 ^ vs.length = p at h6 hW hR hm
    generalize val ((us.drop j).take vs.length) = T at h6 hW
    generalize val vs = V at h6 hW
    generalize val mid = M at h6 hm ⊢
    have e : M + p * (x + c) = R + p * 4294967296 := by
      rw [Nat.mul_add]
      omega
    have hp : 0 < p := by omega
    have e1 : (M + p * (x + c)) / p = x + c := by rw [Nat.add_mul_div_left _ _ hp, Nat.div_eq_of_lt hm, Nat.zero_add]
    have e2 : (R + p * 4294967296) / p = 4294967296 := by rw [Nat.add_mul_div_left _ _ hp, Nat.div_eq_of_lt hR, Nat.zero_add]
    have e3 : x + c = 4294967296 := by rw [← e1, e, e2]
    refine ⟨e3, ?_⟩
    rw [e3] at e
    omega
  have hz0 : (x + c) % 4294967296 = 0 := by rw [hxc.1]
  rw [hz0] at hz
  refine ⟨mid ++ [0], by simp [h1], h2.append (Sm.cons (by decide) Sm.nil), ?_, gr_row h4 gu _ _ rfl, by rw [val_snoc, Nat.mul_zero, Nat.add_zero]; exact hxc.2⟩
  have := h3.set (j + vs.length) 0
  rw [win_set us mid j vs.length 0 h1 hj] at this
  rw [hz]
  exact this

def GiveR (w : World) (gu : Nat) (us vs : List Nat) (j : Nat) (cv iv : Value) (wr : World) : Prop :=
  ∃ k c : Nat, k ≤ vs.length ∧ c ≤ 1 ∧ iv = .int .i64 k ∧ cv = .int .u64 c ∧ Hid (GiveInv w wr gu us vs j k c)

/-- What giveBack leaves. -/
def Given (w : World) (gu : Nat) (us vs : List Nat) (j R : Nat) (w' : World) : Prop :=
  ∃ W : List Nat, W.length = vs.length + 1 ∧ Sm W ∧ Arr w' gu (us.take j ++ W ++ us.drop (j + (vs.length + 1))) ∧ w.grownBy w' (some gu) ∧ val W = R

set_option maxHeartbeats 2000000 in
set_option maxRecDepth 10000 in
theorem giveBack_at (gu j cu R : Nat) (us vs : List Nat) (yv : Value) (w : World) (ha : Arr w gu us) (hy : Ws w yv vs) (su : Sm us) (hne : blockOf yv ≠ some gu) (hj : j + vs.length < us.length) (hl : us.length ≤ 1000000001) (hc1 : vs.length + 1 ≤ cu) (hc2 : cu ≤ maxLen)
    (hW : val ((us.drop j).take (vs.length + 1)) + val vs = R + 4294967296 ^ (vs.length + 1)) (hR : R < 4294967296 ^ vs.length) :
    Calls Tryz.prog 126 #[.slice (some ⟨gu, j, none⟩) (vs.length + 1) cu, yv] w fun e w' => e = .returned (.tuple #[]) ∧ Given w gu us vs j R w' := by
  obtain ⟨bo, cb, eb, hcb, hcb', Hb⟩ := hy.open
  unfold maxLen at hc2 hcb'
  have HB := hide Hb
  have SB := hide hy.sm
  have SU := hide su
  have HA := hide ha
  have HW := hide hW
  have HR := hide hR
  have hgu := ha.lt
  subst eb
  have HNE := hide hne
  clear Hb hy su ha hne hW hR
  go_enter Tryz.func126, Tryz.ntmps126
  go_wp2
  go_loopw [4, 9] (fun cv iv wr => GiveR w gu us vs j cv iv wr) (fun _ iv _ => vs.length - (intOf iv).toNat)
  case atStart => exact ⟨0, 0, by omega, by omega, rfl, rfl, [], rfl, Sm.nil, by rw [List.append_nil, Nat.add_zero, List.take_append_drop]; exact HA.out, gr_refl _ _, by simp [val]⟩
  case round =>
    obtain ⟨k, c, hk, hc, rfl, rfl, HI⟩ := hrel
    by_cases hlt : k < vs.length
    · obtain ⟨b, off, rfl, hbl, hcell⟩ := unhide HB k hlt
      have hv := SB.out.get k hlt
      have hbg : b ≠ gu := by
        intro e
        exact HNE.out (by rw [e]; rfl)
      have hjk : j + k < us.length := by omega
      obtain ⟨hcu, hfr, hstep⟩ := HI.out.at hlt hjk
      have hu := SU.out.get (j + k) hjk
      have hgr : w.grownBy wr (some gu) := by obtain ⟨_, _, _, _, h4, _⟩ := HI.out; exact h4
      have hcv := hgr.cell hcell (by show some b ≠ some gu; intro e; exact hbg (by simpa using e))
      generalize vs[k] = v at hcv hv hstep
      generalize us[j + k] = u at hcu hu hstep
      have HST := hide hstep
      clear hstep HI hcell hgr HB
      go_wp2
      go_roundw
      case rel => exact ⟨k + 1, (c + u + v) / 4294967296, by omega, by omega, by go_num, by go_num, HST.out _ (by omega)⟩
      case measure => simp [intOf]; omega
    · obtain rfl : k = vs.length := by omega
      obtain ⟨hcu, hfr, htop⟩ := HI.out.top hj HW.out HR.out
      have hu := SU.out.get (j + vs.length) hj
      generalize us[j + vs.length] = u at hcu hu htop
      have HTOP := hide htop
      clear htop HI HB
      go_wp2
      go_end0
      exact ⟨rfl, HTOP.out _ (by omega)⟩
end Go.Proofs.YtgdiepfknfnmjaaGreatDoor
