/- Plain facts on words, apart from any function. -/
import Derived.Test.YtfhamfgcjdhmdaaDoorBase2
import Derived.Test.YtfhamfgcjdhmdaaDoorKnuth
import Derived.Laws.BitsAllLaws
namespace Go.Proofs.YtfhamfgcjdhmdaaDoor
open Go.RowKit
set_option linter.unusedVariables false

theorem Ws.open {w : World} {v : Value} {xs : List Nat} (h : Ws w v xs) : ∃ ao cap, v = .slice ao xs.length cap ∧ xs.length ≤ cap ∧ cap ≤ maxLen ∧
    ∀ i (h : i < xs.length), ∃ b off, ao = some ⟨b, off, none⟩ ∧ b < w.heap.size ∧ w.cell? ⟨b, off + i, none⟩ = some (.int .u32 (xs[i] : Nat)) := by
  rcases h.sh with ⟨rfl, rfl⟩ | ⟨b, off, cap, rfl, hb, hl, hm, hc⟩
  · exact ⟨none, 0, rfl, by simp, by simp, fun i h => by simp at h⟩
  · exact ⟨_, cap, rfl, hl, hm, fun i h => ⟨b, off, rfl, hb, hc i h⟩⟩

theorem or_word (r x : Nat) (hr : r < 4294967296) (hx : x < 4294967296) : bits .or .u64 ((r : Int) * 4294967296) (x : Int) = ((r * 4294967296 + x : Nat) : Int) := by
  have h := u64_or_nat (r * 4294967296) x (by omega) (by omega)
  rw [Int.natCast_mul] at h
  have e : r * 4294967296 ||| x = r * 4294967296 + x := by
    have := Nat.two_pow_add_eq_or_of_lt (i := 32) (b := x) (by omega) r
    rw [Nat.mul_comm r]
    exact this.symm
  rw [e] at h
  exact h

theorem or_word' (r x : Nat) (hr : r < 4294967296) (hx : x < 4294967296) : bits .or .u64 (x : Int) ((r : Int) * 4294967296) = ((x + 4294967296 * r : Nat) : Int) := by
  have h := u64_or_nat x (r * 4294967296) (by omega) (by omega)
  rw [Int.natCast_mul] at h
  have e : x ||| r * 4294967296 = x + 4294967296 * r := by
    have := Nat.two_pow_add_eq_or_of_lt (i := 32) (b := x) (by omega) r
    rw [Nat.or_comm, Nat.mul_comm r, Nat.add_comm]
    exact this.symm
  rw [e] at h
  exact h

theorem mul_bd (x y : Nat) (hx : x < 4294967296) (hy : y < 4294967296) : (x : Int) * (y : Int) ≤ 18446744065119617025 := by
  have : x * y ≤ 4294967295 * 4294967295 := Nat.mul_le_mul (by omega) (by omega)
  have h2 : ((x * y : Nat) : Int) ≤ 18446744065119617025 := by omega
  rwa [Int.natCast_mul] at h2

theorem carry_bd (x y c r : Nat) (hx : x < 4294967296) (hy : y < 4294967296) (hc : c < 4294967296) (hr : r < 4294967296) : (c + (x * y + r)) / 4294967296 < 4294967296 := by
  have : x * y ≤ 4294967295 * 4294967295 := Nat.mul_le_mul (by omega) (by omega)
  omega

theorem carry_cast (x y c r : Nat) : (((c : Int) + ((x : Int) * (y : Int) + (r : Int))) / 4294967296) = (((c + (x * y + r)) / 4294967296 : Nat) : Int) := by
  rw [Int.natCast_ediv, Int.natCast_add, Int.natCast_add, Int.natCast_mul]; rfl

theorem carry_cast' (x y c r : Nat) : (((c : Int) + ((x : Int) * (y : Int) + (r : Int))) % 4294967296) = (((c + (x * y + r)) % 4294967296 : Nat) : Int) := by
  rw [Int.natCast_emod, Int.natCast_add, Int.natCast_add, Int.natCast_mul]; rfl

theorem pow_split (s : Nat) (hs : s < 32) : ∃ r, 2 ^ s * r = 4294967296 ∧ 0 < r := by
  refine ⟨2 ^ (32 - s), ?_, Nat.two_pow_pos _⟩
  rw [← Nat.pow_add, show s + (32 - s) = 32 from by omega]

theorem or_low (s c x : Nat) (hs : s < 32) (hc : c < 2 ^ s) : c ||| (x * 2 ^ s % 4294967296) = c + x * 2 ^ s % 4294967296 ∧ c + x * 2 ^ s % 4294967296 < 4294967296 := by
  obtain ⟨r, hr, hr0⟩ := pow_split s hs
  have e : x * 2 ^ s % 4294967296 = 2 ^ s * (x % r) := by
    rw [← hr, Nat.mul_comm x, Nat.mul_mod_mul_left]
  constructor
  · rw [e, Nat.or_comm, Nat.add_comm]
    exact (Nat.two_pow_add_eq_or_of_lt hc _).symm
  · rw [e]
    have h1 : x % r + 1 ≤ r := Nat.mod_lt _ hr0
    have h2 := Nat.mul_le_mul_left (2 ^ s) h1
    rw [hr, Nat.mul_add, Nat.mul_one] at h2
    omega

theorem shl_cast (x s : Nat) (hx : x < 4294967296) (hs : s < 32) : IntKind.u64.wrap ((x : Int) * 2 ^ s) = ((x * 2 ^ s : Nat) : Int) ∧ x * 2 ^ s < 18446744073709551616 := by
  have h1 : 2 ^ s ≤ 2 ^ 31 := Nat.pow_le_pow_right (by decide) (by omega)
  have h2 : x * 2 ^ s ≤ 4294967295 * 2 ^ 31 := Nat.mul_le_mul (by omega) h1
  have e : (x : Int) * 2 ^ s = ((x * 2 ^ s : Nat) : Int) := by rw [Int.natCast_mul, Int.natCast_pow]; rfl
  refine ⟨?_, by omega⟩
  rw [e, IntWalk.u64_in _ ⟨by omega, by omega⟩]

theorem left_z1 (c x s : Nat) (hx : x < 4294967296) (hs : s < 32) (hc : c < 2 ^ s) : bits .or .u32 (c : Int) (IntKind.u64.wrap ((x : Int) * 2 ^ s) % 4294967296) = ((c + x * 2 ^ s % 4294967296 : Nat) : Int) := by
  have h1 : 2 ^ s ≤ 2 ^ 31 := Nat.pow_le_pow_right (by decide) (by omega)
  rw [(shl_cast x s hx hs).1, show (((x * 2 ^ s : Nat) : Int) % 4294967296) = ((x * 2 ^ s % 4294967296 : Nat) : Int) from by omega, u32_or_nat _ _ (by omega) (by omega), (or_low s c x hs hc).1]

theorem left_z2 (x s : Nat) (hx : x < 4294967296) (hs : s < 32) : bits .or .u32 0 (IntKind.u64.wrap ((x : Int) * 2 ^ s) / 4294967296 % 4294967296) = ((x * 2 ^ s / 4294967296 : Nat) : Int) := by
  have h := (shl_cast x s hx hs).2
  rw [(shl_cast x s hx hs).1, show (((x * 2 ^ s : Nat) : Int) / 4294967296 % 4294967296) = ((x * 2 ^ s / 4294967296 : Nat) : Int) from by omega]
  have := u32_or_nat 0 (x * 2 ^ s / 4294967296) (by omega) (by omega)
  rw [Nat.zero_or] at this
  exact this

theorem left_c (x s : Nat) (hx : x < 4294967296) : x * 2 ^ s / 4294967296 < 2 ^ s := by
  rw [Nat.div_lt_iff_lt_mul (by decide), Nat.mul_comm]
  exact Nat.mul_lt_mul_of_pos_left hx (Nat.two_pow_pos s)

theorem val_drop (xs : List Nat) (k : Nat) (h : Sm xs) (hk : k ≤ xs.length) : val xs / 4294967296 ^ k = val (xs.drop k) := by
  have e := val_append (xs.take k) (xs.drop k)
  have hl : (xs.take k).length = k := by rw [List.length_take]; omega
  rw [List.take_append_drop, hl] at e
  have h1 := val_lt (h.take k)
  rw [hl] at h1
  rw [e, Nat.add_comm, Nat.mul_add_div (Nat.pow_pos (by decide)), Nat.div_eq_of_lt h1, Nat.add_zero]

theorem val_drop_succ (xs : List Nat) (k : Nat) : val (xs.drop k) = xs.getD k 0 + 4294967296 * val (xs.drop (k + 1)) := by
  by_cases h : k < xs.length
  · rw [List.drop_eq_getElem_cons h]; simp [val, h]
  · rw [List.drop_of_length_le (by omega), List.drop_of_length_le (by omega)]
    simp [List.getD, h, val]

theorem right_step (xs : List Nat) (s k : Nat) (h : Sm xs) (hs : s < 32) (hk : k < xs.length) :
    val xs / 2 ^ s / 4294967296 ^ k % 4294967296 = (xs[k] + 4294967296 * xs.getD (k + 1) 0) / 2 ^ s % 4294967296 := by
  obtain ⟨r, hr, hr0⟩ := pow_split s hs
  rw [Nat.div_div_eq_div_mul, Nat.mul_comm, ← Nat.div_div_eq_div_mul, val_drop xs k h (by omega), val_drop_succ xs k, val_drop_succ xs (k + 1)]
  have e1 : xs.getD k 0 = xs[k] := by simp [hk]
  rw [e1]
  generalize xs[k] = x
  generalize xs.getD (k + 1) 0 = y
  generalize val (xs.drop (k + 1 + 1)) = D
  have e2 : x + 4294967296 * (y + 4294967296 * D) = (x + 4294967296 * y) + 2 ^ s * (4294967296 * (r * D)) := by
    have : 4294967296 * D = 2 ^ s * (r * D) := by rw [← Nat.mul_assoc, hr]
    rw [Nat.mul_add, this, Nat.mul_left_comm 4294967296 (2 ^ s), Nat.add_assoc]
  rw [e2, Nat.add_mul_div_left _ _ (Nat.two_pow_pos s), Nat.add_mul_mod_self_left]

theorem shr_cast (m s : Nat) : ((m : Int) / 2 ^ s) = ((m / 2 ^ s : Nat) : Int) := by
  rw [Int.natCast_ediv, Int.natCast_pow]; rfl

theorem win_get (us mid : List Nat) (j k : Nat) (hm : mid.length = k) (hj : j + k < us.length) : (us.take j ++ mid ++ us.drop (j + k))[j + k]? = some us[j + k] := by
  have hl : (us.take j).length = j := by rw [List.length_take]; omega
  rw [List.getElem?_append_right (by simp [hl, hm]), List.drop_eq_getElem_cons hj]
  have e3 : j + k - (us.take j ++ mid).length = 0 := by simp [hl, hm]
  rw [e3]
  rfl

theorem win_set (us mid : List Nat) (j k x : Nat) (hm : mid.length = k) (hj : j + k < us.length) : (us.take j ++ mid ++ us.drop (j + k)).set (j + k) x = us.take j ++ (mid ++ [x]) ++ us.drop (j + (k + 1)) := by
  have hl : (us.take j).length = j := by rw [List.length_take]; omega
  rw [List.set_append_right _ _ (by simp [hl, hm]), List.drop_eq_getElem_cons hj]
  have e3 : j + k - (us.take j ++ mid).length = 0 := by simp [hl, hm]
  rw [e3]
  simp [Nat.add_assoc]

theorem win_length (us mid : List Nat) (j k : Nat) (hm : mid.length = k) (hj : j + k ≤ us.length) : (us.take j ++ mid ++ us.drop (j + k)).length = us.length := by
  simp [hm]; omega

/-- The subtraction of one word: what t holds, its word and its borrow. -/
theorem sub_word (u lo d : Nat) (hu : u < 4294967296) (hlo : lo < 4294967296) (hd : d ≤ 1) :
    ∃ T x e : Nat, IntKind.u64.wrap (IntKind.u64.wrap ((u : Int) - (lo : Int)) - (d : Int)) = (T : Int) ∧ T < 18446744073709551616 ∧ T / 9223372036854775808 = e ∧ T % 4294967296 = x ∧ e ≤ 1 ∧ x < 4294967296 ∧ x + lo + d = u + 4294967296 * e := by
  rw [IntKind.wrap_u64, IntKind.wrap_u64]
  by_cases h : lo + d ≤ u
  · exact ⟨u - lo - d, u - lo - d, 0, by omega, by omega, by omega, by omega, by omega, by omega, by omega⟩
  · exact ⟨18446744073709551616 + u - lo - d, 4294967296 + u - lo - d, 1, by omega, by omega, by omega, by omega, by omega, by omega, by omega⟩

theorem high_zero (ys : List Nat) (n V : Nat) (h : val ys < V) (hV : V ≤ 4294967296 ^ n) (hn : n ≤ ys.length) : val (ys.drop n) = 0 ∧ val (ys.take n) = val ys := by
  have e := val_append (ys.take n) (ys.drop n)
  have hl : (ys.take n).length = n := by rw [List.length_take]; omega
  rw [List.take_append_drop, hl] at e
  have h0 : val (ys.drop n) = 0 := by
    rcases Nat.eq_zero_or_pos (val (ys.drop n)) with h0 | h0
    · exact h0
    · have : 4294967296 ^ n * 1 ≤ 4294967296 ^ n * val (ys.drop n) := Nat.mul_le_mul_left _ h0
      rw [Nat.mul_one] at this
      omega
  rw [h0, Nat.mul_zero] at e
  exact ⟨h0, by omega⟩

/-- The window of round j, as a number. -/
theorem win_val {us vs : List Nat} {j : Nat} (sv : Sm vs) (su : Sm us) (hj : j + vs.length < us.length) (h : val (us.drop (j + 1)) < val vs) :
    val ((us.drop j).take (vs.length + 1)) = val (us.drop j) ∧ val (us.drop j) < 4294967296 * val vs ∧ val (us.drop (j + (vs.length + 1))) = 0 := by
  have e1 := val_drop_succ us j
  have e2 : us.getD j 0 < 4294967296 := su.getD j
  have hV := val_lt sv
  have h2 : val (us.drop j) < 4294967296 * val vs := by
    have : 4294967296 * (val (us.drop (j + 1)) + 1) ≤ 4294967296 * val vs := Nat.mul_le_mul_left _ h
    omega
  have h3 := high_zero (us.drop j) (vs.length + 1) (4294967296 * val vs) h2 (by rw [Nat.pow_succ, Nat.mul_comm]; exact Nat.mul_le_mul_right _ (Nat.le_of_lt hV)) (by rw [List.length_drop]; omega)
  rw [List.drop_drop] at h3
  exact ⟨h3.2, h2, h3.1⟩

theorem ord_ge {m n : Nat} (h : n ≤ m) : 0 ≤ ord m n := by
  rcases Nat.lt_or_ge n m with h1 | h1
  · rw [ord_gt h1]; decide
  · rw [show m = n from by omega, ord_eq]; decide

theorem tr_top {xs : List Nat} (h : Tr xs) (hne : xs ≠ []) : ∃ t, xs[xs.length - 1]? = some t ∧ 0 < t := by
  induction xs with
  | nil => exact absurd rfl hne
  | cons x r ih =>
    cases r with
    | nil =>
      refine ⟨x, rfl, ?_⟩
      have := h.pos
      simp only [val] at this
      omega
    | cons y s =>
      obtain ⟨t, h1, h2⟩ := ih h.tail (by simp)
      exact ⟨t, by simpa using h1, h2⟩

theorem norm_top (ys vs : List Nat) (t n1 s : Nat) (hs : s = 32 - n1) (h1 : 1 ≤ n1) (h2 : n1 ≤ 32) (sy : Sm ys) (hy : 0 < ys.length) (ht : ys[ys.length - 1]? = some t) (ht1 : 2 ^ (n1 - 1) ≤ t) (ht2 : t < 2 ^ n1)
    (sv : Sm vs) (tv : Tr vs) (hv : val vs = val ys * 2 ^ s) : vs.length = ys.length ∧ ∃ tt, vs[vs.length - 1]? = some tt ∧ 2147483648 ≤ tt := by
  obtain ⟨k, hk⟩ : ∃ k, ys.length = k + 1 := ⟨ys.length - 1, by omega⟩
  rw [hk, Nat.add_sub_cancel] at ht
  obtain ⟨hkl, hte⟩ := List.getElem?_eq_some_iff.1 ht
  have e1 : val ys = val (ys.take k) + 4294967296 ^ k * t := by
    have := val_take_succ ys k hkl
    rw [List.take_of_length_le (by omega), hte] at this
    exact this
  have hlo := val_lt (sy.take k)
  rw [List.length_take, show min k ys.length = k from by omega] at hlo
  have p1 : 2 ^ n1 * 2 ^ s = 4294967296 := by rw [← Nat.pow_add, hs, show n1 + (32 - n1) = 32 from by omega]
  have p2 : 2 ^ (n1 - 1) * 2 ^ s = 2147483648 := by rw [← Nat.pow_add, hs, show n1 - 1 + (32 - n1) = 31 from by omega]
  have hs0 : 0 < 2 ^ s := Nat.two_pow_pos s
  generalize 2 ^ s = S at hv p1 p2 hs0
  have up : val vs < 4294967296 ^ (k + 1) := by
    have a1 : val ys + 1 ≤ 4294967296 ^ k * (t + 1) := by rw [Nat.mul_add, Nat.mul_one]; omega
    have a2 : 4294967296 ^ k * (t + 1) ≤ 4294967296 ^ k * 2 ^ n1 := Nat.mul_le_mul_left _ ht2
    have a3 : (val ys + 1) * S ≤ 4294967296 ^ k * 2 ^ n1 * S := Nat.mul_le_mul_right _ (Nat.le_trans a1 a2)
    rw [Nat.mul_assoc, p1, ← Nat.pow_succ, Nat.add_mul, Nat.one_mul] at a3
    omega
  have lo : 4294967296 ^ k * 2147483648 ≤ val vs := by
    have a1 : 4294967296 ^ k * 2 ^ (n1 - 1) ≤ val ys := by
      have := Nat.mul_le_mul_left (4294967296 ^ k) ht1
      omega
    have a2 := Nat.mul_le_mul_right S a1
    rw [Nat.mul_assoc, p2] at a2
    omega
  have hp : 0 < 4294967296 ^ k := Nat.pow_pos (by decide)
  have vne : vs ≠ [] := by intro e; rw [e] at lo; simp only [val] at lo; omega
  have l1 : vs.length - 1 < k + 1 := by
    have := tr_ge tv vne
    exact (Nat.pow_lt_pow_iff_right (a := 4294967296) (by decide)).1 (Nat.lt_of_le_of_lt this up)
  have l2 : k < vs.length := by
    have a := val_lt sv
    have b : 4294967296 ^ k * 1 ≤ 4294967296 ^ k * 2147483648 := Nat.mul_le_mul_left _ (by decide)
    exact (Nat.pow_lt_pow_iff_right (a := 4294967296) (by decide)).1 (by omega)
  have l3 : vs.length = k + 1 := by omega
  refine ⟨by omega, vs[k], by rw [l3, Nat.add_sub_cancel]; exact List.getElem?_eq_getElem l2, ?_⟩
  have e2 := val_take_succ vs k l2
  rw [List.take_of_length_le (by omega)] at e2
  have hl2 := val_lt (sv.take k)
  rw [List.length_take, show min k vs.length = k from by omega] at hl2
  have a1 : 4294967296 ^ k * 2147483648 < 4294967296 ^ k * (vs[k] + 1) := by rw [Nat.mul_add, Nat.mul_one]; omega
  have := Nat.lt_of_mul_lt_mul_left a1
  omega

theorem Ws.blk {w : World} {v : Value} {xs : List Nat} (h : Ws w v xs) : ∀ k, blockOf v = some k → k < w.heap.size := by
  intro k hk
  rcases h.sh with ⟨rfl, _⟩ | ⟨b, off, cap, rfl, hb, _⟩
  · simp [blockOf] at hk
  · simp [blockOf] at hk; omega

theorem norm_lt (xs : List Nat) (s : Nat) (h : Sm xs) (hs : s < 32) : val xs * 2 ^ s < 4294967296 ^ (xs.length + 2 - 1) := by
  have h1 : 2 ^ s ≤ 2 ^ 31 := Nat.pow_le_pow_right (by decide) (by omega)
  have h2 := val_lt h
  have h3 : val xs * 2 ^ s ≤ val xs * 2 ^ 31 := Nat.mul_le_mul_left _ h1
  have h4 : (val xs + 1) * 4294967296 ≤ 4294967296 ^ xs.length * 4294967296 := Nat.mul_le_mul_right _ h2
  rw [show xs.length + 2 - 1 = xs.length + 1 from by omega, Nat.pow_succ]
  omega

/-- Where nothing was owed: the digit was right. -/
theorem digit_right {U V g W p e : Nat} (h : W + g * V = U + p * e) (he : e = 0) (h1 : U / V ≤ g) (hV : 0 < V) : U / V = g ∧ W = U % V := by
  subst he
  rw [Nat.mul_zero, Nat.add_zero] at h
  have h2 : g ≤ U / V := by
    rw [Nat.le_div_iff_mul_le hV]
    omega
  have h3 : U / V = g := by omega
  refine ⟨h3, ?_⟩
  have := Nat.div_add_mod U V
  rw [h3, Nat.mul_comm] at this
  omega

/-- Where one was owed: the digit was one too great. -/
theorem digit_over {U V g W p e : Nat} (h : W + g * V = U + p * e) (he : e = 1) (h1 : U / V ≤ g) (h2 : g ≤ U / V + 1) (hW : W < p) (hV : 0 < V) : U / V = g - 1 ∧ 1 ≤ g ∧ W + V = U % V + p := by
  subst he
  rw [Nat.mul_one] at h
  have h3 := Nat.div_add_mod U V
  have hr := Nat.mod_lt U hV
  generalize U / V = q at h1 h2 h3 ⊢
  generalize U % V = r at h3 hr ⊢
  have h4 : q ≠ g := by
    intro e
    rw [e, Nat.mul_comm] at h3
    omega
  have h5 : g = q + 1 := by omega
  refine ⟨by omega, by omega, ?_⟩
  rw [h5, Nat.add_mul, Nat.one_mul, Nat.mul_comm q] at h
  omega

theorem guess_down {g r vt hh : Nat} (h : g * vt + r = hh) (hg : 1 ≤ g) : (g - 1) * vt + (r + vt) = hh := by
  obtain ⟨m, rfl⟩ : ∃ m, g = m + 1 := ⟨g - 1, by omega⟩
  rw [Nat.add_sub_cancel]
  rw [Nat.add_mul, Nat.one_mul] at h
  omega

theorem div_end (X Y S Q R : Nat) (hS : 0 < S) (hR : R < Y * S) (h : X * S = Q * (Y * S) + R) : Q = X / Y ∧ R / S = X % Y := by
  have hY : 0 < Y := by
    rcases Nat.eq_zero_or_pos Y with e | e
    · rw [e, Nat.zero_mul] at hR; omega
    · exact e
  have hYS : 0 < Y * S := Nat.mul_pos hY hS
  have e1 : X * S / (Y * S) = X / Y := Nat.mul_div_mul_right X Y hS
  have e2 : X * S / (Y * S) = Q := by
    rw [h, Nat.mul_comm Q, Nat.mul_add_div hYS, Nat.div_eq_of_lt hR, Nat.add_zero]
  have e3 : X * S % (Y * S) = R := by
    rw [h, Nat.mul_comm Q, Nat.mul_add_mod, Nat.mod_eq_of_lt hR]
  rw [Nat.mul_mod_mul_right] at e3
  exact ⟨by rw [← e2, e1], by rw [← e3, Nat.mul_div_cancel _ hS]⟩

theorem ord_neg {m n : Nat} (h : m < n) : ord m n < 0 := by rw [ord_lt h]; decide

theorem len_le {xs ys : List Nat} (sx : Sm xs) (tx : Tr xs) (sy : Sm ys) (h : val xs ≤ val ys) : xs.length ≤ ys.length := by
  rcases Nat.lt_or_ge ys.length xs.length with h1 | h1
  · have := val_lt_of_length sy tx h1; omega
  · exact h1

theorem val_two {xs : List Nat} (h : Sm xs) (hl : xs.length ≤ 2) : val xs < 18446744073709551616 := by
  have h1 := val_lt h
  have h2 : 4294967296 ^ xs.length ≤ 4294967296 ^ 2 := Nat.pow_le_pow_right (by decide) hl
  omega
end Go.Proofs.YtfhamfgcjdhmdaaDoor
