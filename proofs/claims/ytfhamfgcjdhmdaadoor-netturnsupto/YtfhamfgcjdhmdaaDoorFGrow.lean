/- frac: grow, shrink; slices.Clone of words. -/
import Derived.Test.YtfhamfgcjdhmdaaDoorFOwn
import Derived.Lib.SliceRun
namespace Go.Proofs.YtfhamfgcjdhmdaaDoor
open Go.RowKit

/-- Behind i rounds of grow. -/
def GrowInv (w wr : World) (base g cap : Nat) (xs : List Nat) (b m i c : Nat) : Prop :=
  ∃ mid : List Nat, mid.length = i ∧ Sm mid ∧ Own wr base (.slice (some ⟨g, 0, none⟩) xs.length cap) (mid ++ xs.drop i) ∧ w.grownBy wr (some g) ∧ val mid + 4294967296 ^ i * c = val (xs.take i) * b + m

theorem GrowInv.at {w wr : World} {base g cap : Nat} {xs : List Nat} {b m i c : Nat} (h : GrowInv w wr base g cap xs b m i c) (hi : i < xs.length) :
    wr.cell? ⟨g, i, none⟩ = some (.int .u32 (xs[i] : Nat)) ∧ wr.frozen? ⟨g, i, none⟩ = false ∧
      ∀ (x : Nat) (z : Int), x = xs[i] → z = (((c + x * b) % 4294967296 : Nat) : Int) → GrowInv w (wr.setCell ⟨g, i, none⟩ (.int .u32 z)) base g cap xs b m (i + 1) ((c + x * b) / 4294967296) := by
  obtain ⟨mid, h1, h2, h3, h4, h5⟩ := h
  have hl : (mid ++ xs.drop i).length = xs.length := by simp [h1]; omega
  rw [← hl] at h3
  obtain ⟨k1, k2, k3⟩ := h3.at i (by rw [hl]; exact hi)
  have e : (mid ++ xs.drop i)[i]'(by rw [hl]; exact hi) = xs[i] := by
    rw [List.getElem_append_right (by omega)]
    simp [h1]
  rw [e] at k1
  refine ⟨k1, k2, fun x z hx hz => ?_⟩
  have h6 := k3 _ z hz
  have e2 : (mid ++ xs.drop i).set i ((c + x * b) % 4294967296) = (mid ++ [(c + x * b) % 4294967296]) ++ xs.drop (i + 1) := by
    rw [List.set_append_right _ _ (by omega), h1, Nat.sub_self, List.drop_eq_getElem_cons hi, List.set_cons_zero, List.append_assoc]
    rfl
  rw [e2, hl] at h6
  refine ⟨mid ++ [(c + x * b) % 4294967296], by simp [h1], h2.snoc _, h6, gr_row h4 g i _ rfl, ?_⟩
  rw [val_snoc, h1, Nat.pow_succ, Nat.add_assoc, carry_step, Nat.mul_add, ← Nat.add_assoc, h5, val_take_succ xs i hi, ← hx, Nat.add_mul, Nat.mul_assoc]
  omega

theorem grow_cast (x y c : Nat) : (((c : Int) + (x : Int) * (y : Int)) / 4294967296) = (((c + x * y) / 4294967296 : Nat) : Int) := by
  rw [Int.natCast_ediv, Int.natCast_add, Int.natCast_mul]; rfl
theorem grow_cast' (x y c : Nat) : (((c : Int) + (x : Int) * (y : Int)) % 4294967296) = (((c + x * y) % 4294967296 : Nat) : Int) := by
  rw [Int.natCast_emod, Int.natCast_add, Int.natCast_mul]; rfl

/-- What grow answers. -/
def Grown (w : World) (base : Nat) (v : Value) (xs : List Nat) (b m : Nat) (v' : Value) (w' : World) : Prop :=
  ∃ ys, Own w' base v' ys ∧ Sm ys ∧ val ys = val xs * b + m ∧ ys.length ≤ xs.length + 1 ∧ w.grownBy w' (blockOf v) ∧ (Tr xs → 0 < b → Tr ys)

theorem grown_end {xs mid : List Nat} {b m : Nat} (hm : mid.length = xs.length) (hs : Sm mid) (h : val mid = val xs * b + m) (tx : Tr xs) (hb : 0 < b) : Tr mid := by
  refine tr_of_ge hs fun hne => ?_
  have hx : xs ≠ [] := by
    intro e
    subst e
    exact hne (List.eq_nil_of_length_eq_zero hm)
  have h1 := tr_ge tx hx
  rw [hm, h]
  have : val xs * 1 ≤ val xs * b := Nat.mul_le_mul_left _ hb
  omega

theorem Own.alloc {w : World} {base : Nat} {v : Value} {xs : List Nat} (h : Own w base v xs) (o : Obj) : Own (w.alloc o) base v xs := World.ownsRow.alloc h o

set_option maxHeartbeats 1000000 in
set_option maxRecDepth 10000 in
theorem grow_own (v : Value) (xs : List Nat) (b m : Nat) (w : World) (base : Nat) (h : Own w base v xs) (hs : Sm xs) (hb : b < 4294967296) (hm : m < 4294967296) (hl : xs.length ≤ 1000000000) (hbase : base ≤ w.heap.size) :
    Calls Tryd.prog 40 #[v, .int .u32 (b : Nat), .int .u32 (m : Nat)] w fun e w' => ∃ v', e = .returned v' ∧ Grown w base v xs b m v' w' := by
  obtain ⟨i0, hi0, hz0, hz1, hz2⟩ := info_parts Tryd.info32
  obtain ⟨ao, cap, ev, hc1, hc2, hao⟩ := h.open
  unfold maxLen at hc2
  have HS := hide hs
  have HAO := hide hao
  have HO := hide h
  subst ev
  clear h hs hao
  go_enter Tryd.func40, Tryd.ntmps40
  go_wp2
  go_loopw [7, 14] (fun cv iv wr => ∃ i c : Nat, i ≤ xs.length ∧ c < 4294967296 ∧ iv = .int .i64 i ∧ cv = .int .u64 c ∧ Hid (∃ mid : List Nat, mid.length = i ∧ Sm mid ∧ Own wr base (.slice ao xs.length cap) (mid ++ xs.drop i) ∧ w.grownBy wr (blockOf (.slice ao xs.length cap)) ∧ val mid + 4294967296 ^ i * c = val (xs.take i) * b + m)) (fun _ iv _ => xs.length - (intOf iv).toNat)
  case atStart => exact ⟨0, m, by omega, hm, rfl, rfl, [], rfl, Sm.nil, HO.out, gr_refl _ _, by simp [val]⟩
  case round =>
    obtain ⟨i, c, hi, hc, rfl, rfl, HI⟩ := hrel
    by_cases hlt : i < xs.length
    · obtain ⟨g, rfl, hg1, hg2⟩ : ∃ g, ao = some ⟨g, 0, none⟩ ∧ base ≤ g ∧ g < w.heap.size := by
        rcases HAO.out with e | e
        · exfalso
          subst e
          rcases HO.out.2 with ⟨_, e2⟩ | ⟨g, cap', cur, e2, _⟩
          · omega
          · simp at e2
        · exact e
      obtain ⟨hcx, hfr, hstep⟩ := GrowInv.at (w := w) (wr := wr) (base := base) (g := g) (cap := cap) (xs := xs) (b := b) (m := m) (i := i) (c := c) HI.out hlt
      have hx := HS.out.get i hlt
      obtain ⟨x, ex⟩ : ∃ x, x = xs[i] := ⟨_, rfl⟩
      rw [← ex] at hcx hx
      have HST := hide (hstep x)
      have EX := hide ex
      have hp := mul_bd x b hx hb
      have hp0 : 0 ≤ (x : Int) * (b : Int) := Int.mul_nonneg (by omega) (by omega)
      clear hstep ex HI HAO
      go_wp2
      go_roundw
      case rel =>
        refine ⟨i + 1, (c + x * b) / 4294967296, by omega, ?_, by go_num, by rw [grow_cast], HST.out _ EX.out (by rw [grow_cast'])⟩
        have : x * b ≤ 4294967295 * 4294967295 := Nat.mul_le_mul (by omega) (by omega)
        omega
      case measure => simp [intOf]; omega
    · obtain rfl : i = xs.length := by omega
      obtain ⟨mid, h1, h2, h3, h4, h5⟩ := HI.out
      rw [List.drop_of_length_le (Nat.le_refl _), List.append_nil] at h3
      rw [List.take_of_length_le (Nat.le_refl _)] at h5
      by_cases hc0 : c = 0
      · subst hc0
        rw [Nat.mul_zero, Nat.add_zero] at h5
        have HE : Hid (Grown w base (.slice ao xs.length cap) xs b m (.slice ao xs.length cap) wr) := ⟨mid, h3, h2, h5, by omega, h4, fun tx hb0 => grown_end h1 h2 h5 tx hb0⟩
        clear h1 h2 h3 h4 h5 HI HAO HO HS
        go_wp2
        go_ret
        exact ⟨_, rfl, HE.out⟩
      · have hc1' : 1 ≤ c := by omega
        obtain ⟨zc, ezc⟩ : ∃ z : Int, z = (c : Int) := ⟨_, rfl⟩
        have hzc1 : 0 < zc := by omega
        have hzc2 : zc < 4294967296 := by omega
        simp only [← ezc]
        have EZC := hide ezc
        clear ezc hc1' hc
        have H1 := hide h1
        have H2 := hide h2
        have H3 := hide h3
        have H4 := hide h4
        have H5 := hide h5
        have HSZ := hide h4.size
        clear h1 h2 h3 h4 h5 HI HAO HO HS hc0
        go_wp2_with (at_builtin; refine wpList_append_own _ rfl _ _ 62 rfl base 79 i0 (.int .u32 0) 1 4 Tryd.underlying62 hi0 hz0 hz1 hz2 rfl (by decide) _ xs.length (wordCells mid).toList rfl ?c0 ⟨wr.heap.size, 0, none⟩ 1 1 [.int .u32 zc] rfl rfl ?c1 ?c2 ?c3 ?c4 ?c5 ?_)
        case c0 =>
          have := H3.out.alloc (Obj.cells #[Value.int IntKind.u32 zc] 79)
          unfold Own at this
          rw [H1.out] at this
          exact this
        case c1 =>
          intro j u hj
          match j with
          | 0 =>
            simp only [List.getElem?_cons_zero, Option.some.injEq] at hj
            subst hj
            simp [Addr.add]
          | j + 1 => simp at hj
        case c2 =>
          intro u hu
          simp only [List.mem_singleton] at hu
          subst hu
          rfl
        case c3 => unfold maxLen; omega
        case c4 => omega
        case c5 =>
          have := HSZ.out
          simp
          omega
        intro v' w2 hown hgr hnil
        have HW := hide hown
        have HGR := hide hgr
        obtain ⟨ao', cap', rfl⟩ : ∃ ao' cap', v' = .slice ao' (xs.length + 1) cap' := by
          rcases hown.2 with ⟨_, e⟩ | ⟨g, cap', cur, rfl, _⟩
          · omega
          · exact ⟨_, _, rfl⟩
        clear hown hgr hnil
        go_wp2
        go_ret
        refine ⟨_, rfl, mid ++ [zc.toNat], ?_, H2.out.append (Sm.cons (by omega) Sm.nil), ?_, by simp [H1.out], ?_, fun _ _ => trimL_snoc_pos _ _ (by omega)⟩
        · have h1 := HW.out
          have e1 : (wordCells mid).toList ++ [Value.int IntKind.u32 zc] = (wordCells (mid ++ [zc.toNat])).toList := by
            have e2 : zc = ((zc.toNat : Nat) : Int) := by omega
            rw [e2]
            simp [wordCells]
          rw [e1] at h1
          unfold Own
          rw [List.length_append, H1.out]
          exact h1
        · rw [val_snoc, H1.out, ← H5.out]
          have e2 : c = zc.toNat := by have := EZC.out; omega
          rw [e2]
        · refine gr_trans (r1 := blockOf (.slice ao xs.length cap)) (r2 := blockOf (.slice ao xs.length cap)) H4.out ?_ (fun _ _ e => e) (fun _ _ e => e)
          have := HGR.out
          rw [ownBlock_eq] at this
          exact gr_trans (r1 := none) (World.grownBy_alloc wr _ none) this (fun _ _ e => by cases e) (fun _ _ e => e)

/-- shrink, when the places from k on are done. -/
def ShrinkInv (w wr : World) (base : Nat) (v : Value) (xs : List Nat) (d k r : Nat) : Prop :=
  ∃ qs : List Nat, qs.length = xs.length - k ∧ Sm qs ∧ Own wr base v (xs.take k ++ qs) ∧ w.grownBy wr (blockOf v) ∧ val (xs.drop k) = val qs * d + r

theorem ShrinkInv.at {w wr : World} {base g cap : Nat} {xs : List Nat} {d j r : Nat} (h : ShrinkInv w wr base (.slice (some ⟨g, 0, none⟩) xs.length cap) xs d (j + 1) r) (hj : j < xs.length) (hd : r < d) (hd2 : d < 4294967296) (sx : Sm xs) :
    wr.cell? ⟨g, j, none⟩ = some (.int .u32 (xs[j] : Nat)) ∧ wr.frozen? ⟨g, j, none⟩ = false ∧
      ∀ (x : Nat) (z : Int), x = xs[j] → z = (((r * 4294967296 + x) / d : Nat) : Int) → ShrinkInv w (wr.setCell ⟨g, j, none⟩ (.int .u32 z)) base (.slice (some ⟨g, 0, none⟩) xs.length cap) xs d j ((r * 4294967296 + x) % d) := by
  obtain ⟨qs, h1, h2, h3, h4, h5⟩ := h
  have hl : (xs.take (j + 1) ++ qs).length = xs.length := by rw [List.length_append, List.length_take, h1]; omega
  have ht : (xs.take j).length = j := by rw [List.length_take]; omega
  rw [take_snocN xs j hj] at h3 hl
  have h3' := h3
  rw [← hl] at h3'
  obtain ⟨k1, k2, k3⟩ := h3'.at j (by rw [hl]; exact hj)
  have e : (xs.take j ++ [xs[j]] ++ qs)[j]'(by rw [hl]; exact hj) = xs[j] := by
    rw [List.getElem_append_left (by rw [List.length_append, ht]; simp), List.getElem_append_right (by omega)]
    simp [ht]
  rw [e] at k1
  refine ⟨k1, k2, fun x z hx hz => ?_⟩
  have h6 := k3 _ z hz
  have hxb : x < 4294967296 := by rw [hx]; exact sx.get j hj
  have hq : (r * 4294967296 + x) / d < 4294967296 := by
    rw [Nat.div_lt_iff_lt_mul (by omega)]
    have : (r + 1) * 4294967296 ≤ d * 4294967296 := Nat.mul_le_mul_right _ (by omega)
    rw [Nat.mul_comm 4294967296 d]
    omega
  have e2 : (xs.take j ++ [xs[j]] ++ qs).set j ((r * 4294967296 + x) / d) = xs.take j ++ ((r * 4294967296 + x) / d) :: qs := by
    rw [List.append_assoc, List.set_append_right _ _ (by omega), ht, Nat.sub_self]
    rfl
  rw [e2, hl] at h6
  refine ⟨((r * 4294967296 + x) / d) :: qs, by simp [h1]; omega, Sm.cons hq h2, h6, gr_row h4 g j _ rfl, ?_⟩
  rw [List.drop_eq_getElem_cons hj, ← hx]
  simp only [val, h5]
  have e := Nat.div_add_mod (r * 4294967296 + x) d
  rw [Nat.add_mul, Nat.mul_add, Nat.mul_assoc, Nat.mul_comm ((r * 4294967296 + x) / d) d]
  omega

/-- trim of such a slice: it is one still. -/
theorem ftrim_own (v : Value) (xs : List Nat) (w : World) (base : Nat) (h : Own w base v xs) (hs : Sm xs) :
    Calls Tryd.prog 49 #[v] w fun e w' => ∃ v', e = .returned v' ∧ w' = w ∧ Own w base v' (trimL xs) ∧ blockOf v' = blockOf v := by
  rcases h.2 with ⟨rfl, h0⟩ | ⟨g, cap, cur, rfl, hb, hh, h1, h2, h3, h4⟩
  · have : xs = [] := List.eq_nil_of_length_eq_zero h0
    subst this
    refine (ftrim_nil w).mono ?_
    rintro e w' ⟨rfl, rfl⟩
    exact ⟨_, rfl, rfl, own_nil _ _, rfl⟩
  · refine (ftrim_some g 0 cap xs w h1 h2 ?_).mono ?_
    · intro i hi
      rw [Nat.zero_add]
      simp only [World.cell?, hh]
      exact take_cells h4 i hi
    · rintro e w' ⟨rfl, rfl⟩
      have ht := trimL_length xs
      refine ⟨_, rfl, rfl, ⟨by simp [wordCells], .inr ⟨g, cap, cur, rfl, hb, hh, by omega, h2, h3, ?_⟩⟩, rfl⟩
      apply List.ext_getElem?
      intro i
      rw [List.getElem?_take]
      split
      · rename_i hi
        have hi' : i < (trimL xs).length := by omega
        have := take_cells h4 i (by omega)
        rw [Array.getElem?_toList, this]
        simp [wordCells, hi', trimL_get xs i hi']
      · rename_i hi
        rw [List.getElem?_eq_none]
        simp [wordCells]
        omega

set_option maxHeartbeats 400000 in
theorem fword_own (x : Nat) (w : World) (h1 : x < 4294967296) :
    Calls Tryd.prog 46 #[.int .u32 x] w fun e w' => ∃ v', e = .returned v' ∧ OwnN w' w.heap.size v' x 1 ∧ w.grownBy w' none := by
  go_enter Tryd.func46, Tryd.ntmps46
  go_wp2_with fail
  have ha : Arr (w.alloc (Obj.cells #[Value.int IntKind.u32 (x : Int)] 79)) w.heap.size [x] := by
    unfold Arr
    show (w.heap.push _)[w.heap.size]? = _
    rw [Array.getElem?_push_size]
    rfl
  have hw := ha.own (base := w.heap.size) (Nat.le_refl _) (by unfold maxLen; simp)
  clear ha
  refine (ftrim_own _ [x] _ w.heap.size hw (Sm.cons h1 Sm.nil)).mono ?_
  rintro e w1 ⟨v', rfl, rfl, h2, h3⟩
  clear hw
  go_wp2
  go_ret
  refine ⟨v', rfl, ⟨_, h2, (Sm.cons h1 Sm.nil).trimL, Tr.trimL _, ?_, trimL_length _⟩, gr_alloc (gr_refl _ _) _⟩
  rw [val_trimL]
  simp only [val]
  omega

/-- What shrink answers. -/
def Shrunk (w : World) (base : Nat) (v : Value) (xs : List Nat) (d : Nat) (v' : Value) (w' : World) : Prop :=
  ∃ ys, Own w' base v' ys ∧ Sm ys ∧ Tr ys ∧ val ys = val xs / d ∧ ys.length ≤ xs.length ∧ w.grownBy w' (blockOf v) ∧ blockOf v' = blockOf v

set_option maxHeartbeats 1000000 in
set_option maxRecDepth 10000 in
theorem shrink_own (v : Value) (xs : List Nat) (d : Nat) (w : World) (base : Nat) (h : Own w base v xs) (hs : Sm xs) (hd0 : 0 < d) (hd : d < 4294967296) (hl : xs.length ≤ 1000000000) :
    Calls Tryd.prog 45 #[v, .int .u32 (d : Nat)] w fun e w' => ∃ v' r, e = .returned (.tuple #[v', .int .u32 (r : Nat)]) ∧ r = val xs % d ∧ Shrunk w base v xs d v' w' := by
  obtain ⟨ao, cap, ev, hc1, hc2, hao⟩ := h.open
  unfold maxLen at hc2
  have HS := hide hs
  have HAO := hide hao
  have HO := hide h
  subst ev
  clear h hs hao
  go_enter Tryd.func45, Tryd.ntmps45
  go_wp2
  go_loopw [6, 7] (fun rv iv wr => ∃ (z : Int) (r : Nat), -1 ≤ z ∧ z < xs.length ∧ r < d ∧ iv = .int .i64 z ∧ rv = .int .u64 r ∧ Hid (ShrinkInv w wr base (.slice ao xs.length cap) xs d (z + 1).toNat r)) (fun _ iv _ => (intOf iv + 1).toNat)
  case atStart => exact ⟨(xs.length : Int) - 1, 0, by omega, by omega, by omega, rfl, rfl, [], by simp, Sm.nil, by
    rw [show ((xs.length : Int) - 1 + 1).toNat = xs.length from by omega, List.append_nil, List.take_of_length_le (Nat.le_refl _)]; exact HO.out, gr_refl _ _, by
    rw [List.drop_of_length_le (by omega)]; simp [val]⟩
  case round =>
    obtain ⟨z, r, hz1, hz2, hr, rfl, rfl, HI⟩ := hrel
    by_cases h0 : z < 0
    · obtain ⟨qs, h1, h2, h3, h4, h5⟩ := HI.out
      rw [show (z + 1).toNat = 0 from by omega] at h1 h3 h5
      simp only [List.take_zero, List.nil_append, Nat.sub_zero, List.drop_zero] at h1 h3 h5
      have H1 := hide h1
      have H2 := hide h2
      have H3 := hide h3
      have H4 := hide h4
      have H5 := hide h5
      clear h1 h2 h3 h4 h5 HI HO HAO
      go_wp2_with fail
      refine (ftrim_own _ qs _ base H3.out H2.out).mono ?_
      rintro e w2 ⟨v', rfl, rfl, k1, k2⟩
      have K1 := hide k1
      have K2 := hide k2
      clear k1 k2
      go_wp2
      go_ret2
      refine ⟨v', r, rfl, ?_, trimL qs, K1.out, H2.out.trimL, Tr.trimL _, ?_, ?_, H4.out, K2.out⟩
      · rw [H5.out, Nat.mul_comm, Nat.mul_add_mod, Nat.mod_eq_of_lt hr]
      · rw [val_trimL, H5.out, Nat.mul_comm, Nat.mul_add_div hd0, Nat.div_eq_of_lt hr, Nat.add_zero]
      · have := trimL_length qs
        have := H1.out
        omega
    · obtain ⟨j, rfl⟩ : ∃ j : Nat, z = j := ⟨z.toNat, by omega⟩
      have hjx : j < xs.length := by omega
      obtain ⟨g, rfl, hg1, hg2⟩ : ∃ g, ao = some ⟨g, 0, none⟩ ∧ base ≤ g ∧ g < w.heap.size := by
        rcases HAO.out with e | e
        · exfalso
          subst e
          rcases HO.out.2 with ⟨_, e2⟩ | ⟨g, cap', cur, e2, _⟩
          · omega
          · simp at e2
        · exact e
      have HI' := HI.out
      rw [show ((j : Int) + 1).toNat = j + 1 from by omega] at HI'
      obtain ⟨hcx, hfr, hstep⟩ := HI'.at hjx hr hd HS.out
      have hx := HS.out.get j hjx
      obtain ⟨x, ex⟩ : ∃ x, x = xs[j] := ⟨_, rfl⟩
      rw [← ex] at hcx hx
      have HST := hide (hstep x)
      have EX := hide ex
      obtain ⟨m, hm⟩ : ∃ m, m = r * 4294967296 + x := ⟨_, rfl⟩
      have hor := or_word r x (by omega) hx
      rw [← hm] at hor
      have hmb : m < 18446744073709551616 := by omega
      have hq : m / d < 4294967296 := by
        rw [Nat.div_lt_iff_lt_mul (by omega)]
        have : (r + 1) * 4294967296 ≤ d * 4294967296 := Nat.mul_le_mul_right _ (by omega)
        rw [Nat.mul_comm 4294967296 d]
        omega
      have HQ := hide hq
      have HM := hide hm
      clear hstep ex HI HI' hq hm HAO HO
      go_wp2
      go_roundw
      case rel =>
        refine ⟨(j : Int) - 1, m % d, by omega, by omega, Nat.mod_lt _ hd0, rfl, by rw [Int.natCast_emod], ?_⟩
        rw [show ((j : Int) - 1 + 1).toNat = j from by omega, HM.out]
        refine HST.out _ EX.out ?_
        have hq := HQ.out
        rw [← HM.out, ← Int.natCast_ediv]
        generalize m / d = q at hq ⊢
        rw [IntWalk.u64_in _ ⟨by omega, by omega⟩]
        omega
      case measure => simp [intOf]

set_option maxHeartbeats 1000000 in
set_option maxRecDepth 10000 in
theorem fclone_own (v : Value) (xs : List Nat) (w : World) (h : Ws w v xs) (hl : xs.length ≤ 1000000000) :
    Calls Tryd.prog 44 #[v] w fun e w' => ∃ v', e = .returned v' ∧ Own w' w.heap.size v' xs ∧ w.grownBy w' none := by
  obtain ⟨i0, hi, hz0, hz1, hz2⟩ := info_parts Tryd.info32
  rcases h.sh with ⟨rfl, rfl⟩ | ⟨b, off, cap, rfl, hb, hl', hm, hc⟩
  · have hq : ∀ W, (binOp .eql 62 (.slice none 0 0) (.slice none 0 0)).run Tryd.prog W = .ok (.bool true) W := fun W => Lib.run_eql_slice_nil W _ _ none 0 0 0 0 Tryd.underlying62
    go_enter Tryd.func44, Tryd.ntmps44
    go_wp2
    go_ret
    exact ⟨_, rfl, own_nil _ _, gr_refl _ _⟩
  · have HC := hide hc
    have HH := hide h
    clear hc h
    unfold maxLen at hm
    have hq : ∀ W, (binOp .eql 62 (.slice (some ⟨b, off, none⟩) xs.length cap) (.slice none 0 0)).run Tryd.prog W = .ok (.bool false) W := fun W => Lib.run_eql_slice_nil W _ _ (some _) _ _ 0 0 Tryd.underlying62
    go_enter Tryd.func44, Tryd.ntmps44
    go_wp2_with (at_builtin; refine wpList_append_own _ rfl _ _ 62 rfl w.heap.size 79 i0 (.int .u32 0) 1 4 Tryd.underlying62 hi hz0 hz1 hz2 rfl (by decide) _ 0 [] rfl ?c0 ⟨b, off, none⟩ xs.length cap (wordCells xs).toList rfl ?c1 ?c2 ?c3 ?c4 ?c5 ?c6 ?_)
    case c0 => exact World.ownsRow_made w #[] 0 (Nat.le_refl _) (by unfold maxLen; omega) (by simp)
    case c1 => simp [wordCells]
    case c2 =>
      intro j u hj
      obtain ⟨hj', hju⟩ := List.getElem?_eq_some_iff.1 hj
      have hjl : j < xs.length := by simpa [wordCells] using hj'
      have := unhide HC j hjl
      have h2 := (World.grownBy_alloc w (Obj.cells #[] 79) none).cell this (by simp)
      rw [show (⟨b, off, none⟩ : Addr).add j = ⟨b, off + j, none⟩ from by simp [Addr.add]]
      rw [show u = .int .u32 (xs[j] : Nat) from by rw [← hju]; simp [wordCells]]
      exact h2
    case c3 =>
      intro u hu
      simp only [wordCells, List.mem_map] at hu
      obtain ⟨x, _, rfl⟩ := hu
      rfl
    case c4 => unfold maxLen; omega
    case c5 => omega
    case c6 => simp
    intro v' w1 hown hgr _
    have HO := hide hown
    have HG := hide hgr
    obtain ⟨ao', n', cap', rfl⟩ : ∃ ao' n' cap', v' = .slice ao' n' cap' := by
      rcases hown.2 with ⟨e, _⟩ | ⟨g, cap', cur, rfl, _⟩
      · exact ⟨_, _, _, e⟩
      · exact ⟨_, _, _, rfl⟩
    clear hown hgr
    go_wp2
    go_ret
    refine ⟨_, rfl, HO.out, ?_⟩
    exact gr_trans (r1 := none) (World.grownBy_alloc w _ none) HG.out (fun _ _ e => e) (fun b hb e => by simp [Value.ownBlock] at e; omega)
end Go.Proofs.YtfhamfgcjdhmdaaDoor
