/- frac: readNat. -/
import Derived.Test.YtfhamfgcjdhmdaaDoorFRead
namespace Go.Proofs.YtfhamfgcjdhmdaaDoor
open Go.RowKit
set_option linter.unusedVariables false

/-- What digits say. -/
def decL (l : List UInt8) : Nat := l.foldl (fun a c => a * 10 + (c.toNat - 48)) 0

theorem dec_from (l : List UInt8) (a : Nat) : l.foldl (fun a (c : UInt8) => a * 10 + (c.toNat - 48)) a = a * 10 ^ l.length + decL l := by
  unfold decL
  induction l generalizing a with
  | nil => simp
  | cons c r ih =>
    rw [List.foldl_cons, ih, List.foldl_cons, ih (0 * 10 + (c.toNat - 48))]
    simp only [List.length_cons, Nat.pow_succ, Nat.zero_mul, Nat.zero_add, Nat.add_mul]
    rw [Nat.mul_assoc, Nat.mul_comm 10]
    omega

theorem dec_append (l r : List UInt8) : decL (l ++ r) = decL l * 10 ^ r.length + decL r := by
  have : decL (l ++ r) = r.foldl (fun a (c : UInt8) => a * 10 + (c.toNat - 48)) (decL l) := by simp [decL, List.foldl_append]
  rw [this, dec_from]

theorem dec_snoc (l : List UInt8) (c : UInt8) : decL (l ++ [c]) = decL l * 10 + (c.toNat - 48) := by simp [decL]

theorem dec_lt (l : List UInt8) (h : ∀ c ∈ l, isD c = true) : decL l < 10 ^ l.length := by
  have key : ∀ (n : Nat) (l : List UInt8), l.length = n → (∀ c ∈ l, isD c = true) → decL l < 10 ^ l.length := by
    intro n
    induction n with
    | zero => intro l hl _; have : l = [] := List.eq_nil_of_length_eq_zero hl; subst this; simp [decL]
    | succ n ih =>
      intro l hl h
      have hne : l ≠ [] := by intro e; subst e; simp at hl
      obtain ⟨F, p, rfl⟩ : ∃ F p, l = F ++ [p] := ⟨l.dropLast, l.getLast hne, (List.dropLast_concat_getLast hne).symm⟩
      have h1 := ih F (by simpa using hl) (fun c hc => h c (by simp [hc]))
      have h2 := h p (by simp)
      unfold isD at h2
      rw [Bool.and_eq_true, decide_eq_true_eq, decide_eq_true_eq] at h2
      rw [dec_snoc, List.length_append, List.length_singleton, Nat.pow_succ]
      omega
  exact key l.length l rfl h

theorem take_byte (s : ByteArray) (k : Nat) (h : k < s.size) : s.data.toList.take (k + 1) = s.data.toList.take k ++ [s[k]] := by
  rw [List.take_succ_eq_append_getElem (by simpa using h)]
  rfl

theorem cut_bytes (r : ByteArray) (i : Nat) (h : i ≤ r.size) : (r.extract i r.size).data.toList = r.data.toList.drop i ∧ (r.extract i r.size).size = r.size - i := by
  have e : (r.extract i r.size).data.toList = r.data.toList.drop i := by
    rw [ByteArray.data_extract, Array.toList_extract]
    show List.take (r.data.size - i) _ = _
    rw [List.take_of_length_le (by simp)]
  refine ⟨e, ?_⟩
  rw [Lib.size_eq, e, List.length_drop, Lib.size_eq]

theorem read_step (X D c i n : Nat) (l : List UInt8) (hl : l.length = n) (hi : i ≤ n) (hc : c = decL (l.take i)) (h : X * 10 ^ n + decL l = D) (h9 : X = 0 ∨ i = 9) : (X * 1000000000 + c) * 10 ^ (n - i) + decL (l.drop i) = D := by
  have e := dec_append (l.take i) (l.drop i)
  rw [List.take_append_drop, List.length_drop, hl, ← hc] at e
  rw [← h, e, Nat.add_mul, ← Nat.add_assoc]
  congr 2
  rcases h9 with h9 | h9
  · rw [h9]; simp
  · rw [Nat.mul_assoc]
    congr 1
    rw [show (1000000000 : Nat) = 10 ^ 9 from rfl, ← Nat.pow_add]
    congr 1
    omega

/-- readNat, on its way. -/
def ReadR (w : World) (D N : Nat) (dv ov : Value) (wr : World) : Prop :=
  ∃ (r : ByteArray) (xs : List Nat), dv = .string r ∧ Own wr w.heap.size ov xs ∧ Sm xs ∧ Tr xs ∧ w.grownBy wr none ∧ xs.length + r.size ≤ N ∧ val xs * 10 ^ r.size + decL r.data.toList = D ∧ (∀ c ∈ r.data.toList, isD c = true) ∧ (val xs = 0 ∨ r.size % 9 = 0)

def sizeOfS : Value → Nat
  | .string s => s.size
  | _ => 0

def ChunkR (r : ByteArray) (cv iv : Value) (k : Nat) : Prop := ∃ i c : Nat, i ≤ k ∧ iv = .int .i64 i ∧ cv = .int .u32 c ∧ Hid (c = decL (r.data.toList.take i))

set_option maxHeartbeats 1000000 in
set_option maxRecDepth 10000 in
theorem readNat_at (s : ByteArray) (w : World) (hs : s.size ≤ 700000000) (hd : ∀ c ∈ s.data.toList, isD c = true) :
    Calls Tryd.prog 32 #[.string s] w fun e w' => ∃ v, e = .returned v ∧ Num w' v (decL s.data.toList) s.size ∧ w.grownBy w' none ∧ Fresh w v := by
  have HD := hide hd
  clear hd
  go_enter Tryd.func32, Tryd.ntmps32
  go_wp2
  go_loopw [0, 3] (fun dv ov wr => Hid (ReadR w (decL s.data.toList) s.size dv ov wr)) (fun dv _ _ => sizeOfS dv)
  case atStart => exact ⟨s, [], rfl, own_nil _ _, Sm.nil, rfl, gr_refl _ _, by simp, by simp [val], HD.out, .inl rfl⟩
  case round =>
    obtain ⟨r, xs, rfl, h1, h2, h3, h4, h5, h6, h7, h8⟩ := hrel.out
    obtain ⟨ao, cap, ev, hc1, hc2, _⟩ := h1.open
    subst ev
    have H1 := hide h1
    have H2 := hide h2
    have H3 := hide h3
    have H4 := hide h4
    have H6 := hide h6
    have H7 := hide h7
    have H8 := hide h8
    clear h1 h2 h3 h4 h6 h7 h8 hrel
    by_cases hr : 0 < r.size
    · obtain ⟨k, hk⟩ : ∃ k, k = (r.size - 1) % 9 + 1 := ⟨_, rfl⟩
      have hk1 : 1 ≤ k := by omega
      have hk2 : k ≤ 9 := by omega
      have hk3 : k ≤ r.size := by omega
      have hk' : (((r.size : Int) - 1) % 9 + 1) = (k : Int) := by omega
      have hk'' : (((r.size : Int) - 1).tmod 9 + 1) = (k : Int) := by rw [Int.tmod_eq_emod_of_nonneg (by omega)]; exact hk'
      have HK := hide hk
      clear hk
      go_wp2
      go_loop [5, 16] (fun cv iv => ChunkR r cv iv k) (fun _ iv => k - (intOf iv).toNat)
      case atStart => exact ⟨0, 0, by omega, rfl, rfl, by simp [decL, Hid]⟩
      case round =>
        obtain ⟨i, c, hi, rfl, rfl, HC⟩ := hrel
        by_cases hlt : i < k
        · have hib : i < r.size := by omega
          have hdig : isD r[i] = true := H7.out _ (by
            have : r[i] = r.data.toList[i]'(by simpa using hib) := rfl
            rw [this]; exact List.getElem_mem _)
          unfold isD at hdig
          rw [Bool.and_eq_true, decide_eq_true_eq, decide_eq_true_eq] at hdig
          obtain ⟨hd1, hd2⟩ := hdig
          have hcb : c ≤ 99999999 := by
            have h9 := dec_lt (r.data.toList.take i) (fun c hc => H7.out c (List.mem_of_mem_take hc))
            rw [← HC.out, List.length_take] at h9
            have h10 : 10 ^ min i r.data.toList.length ≤ 10 ^ 8 := Nat.pow_le_pow_right (by decide) (by omega)
            omega
          have HTB := hide (take_byte r i hib)
          clear hk' hk''
          go_wp2
          go_round
          case rel =>
            refine ⟨i + 1, c * 10 + (r[i].toNat - 48), by omega, by go_num, by go_num, ?_⟩
            show _ = _
            rw [HTB.out, dec_snoc, ← HC.out]
          case measure => simp [intOf]; omega
        · obtain rfl : i = k := by omega
          have hcb : c ≤ 999999999 := by
            have h9 := dec_lt (r.data.toList.take i) (fun c hc => H7.out c (List.mem_of_mem_take hc))
            rw [← HC.out, List.length_take] at h9
            have h10 : 10 ^ min i r.data.toList.length ≤ 10 ^ 9 := Nat.pow_le_pow_right (by decide) (by omega)
            omega
          clear hk' hk''
          go_wp2_with fail
          refine (grow_own _ xs 1000000000 c _ w.heap.size H1.out H2.out (by omega) (by omega) (by omega) H4.out.size).mono ?_
          rintro e w2 ⟨v', rfl, hgrown⟩
          obtain ⟨go, gc, gl, rfl⟩ : ∃ go gc gl, v' = .slice go gl gc := by
            obtain ⟨_, o1, _⟩ := hgrown
            obtain ⟨go, gc, e, _⟩ := o1.open
            exact ⟨_, _, _, e⟩
          have HGR := hide hgrown
          clear hgrown
          obtain ⟨hb1, hb2⟩ := cut_bytes r i hk3
          have HB1 := hide hb1
          have HB2 := hide hb2
          clear hb1 hb2
          go_wp2
          refine ⟨?_, ?_⟩
          · obtain ⟨ys, o1, o2, o3, o4, o5, o6⟩ := HGR.out
            have hk := HK.out
            refine ⟨r.extract i r.size, ys, rfl, o1, o2, o6 H3.out (by decide), gr_trans (r2 := blockOf (.slice ao xs.length cap)) H4.out o5 (fun _ _ e => e) (fun b hb e => by have := (H1.out.fresh b e.symm).1; omega), ?_, ?_, ?_, .inr ?_⟩
            · rw [HB2.out]; omega
            · rw [HB2.out, HB1.out, o3]
              refine read_step (val xs) _ c i r.size r.data.toList (by rw [Lib.size_eq]) hk3 HC.out H6.out ?_
              rcases H8.out with h | h
              · exact .inl h
              · right; omega
            · rw [HB1.out]
              intro c hc
              exact H7.out c (List.mem_of_mem_drop hc)
            · rw [HB2.out]; omega
          · show (r.extract i r.size).size < r.size
            rw [HB2.out]
            omega
    · have hr0 : r.size = 0 := by omega
      have hrl : r.data.toList = [] := List.eq_nil_of_length_eq_zero (by rw [← Lib.size_eq]; exact hr0)
      have HRL := hide hrl
      have HR0 := hide hr0
      clear hrl hr0
      go_wp2
      go_ret
      refine ⟨_, rfl, ?_, H4.out, H1.out.fr⟩
      have h6 := H6.out
      rw [HR0.out, HRL.out] at h6
      have : val xs = decL s.data.toList := by
        rw [← h6]
        simp [decL]
      rw [← this]
      exact H1.out.num H2.out H3.out _ (by omega)
end Go.Proofs.YtfhamfgcjdhmdaaDoor
