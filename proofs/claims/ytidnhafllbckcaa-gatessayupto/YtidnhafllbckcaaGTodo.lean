/- voltaicref: CheckWay. -/
import Derived.Test.YtidnhafllbckcaaGOther
import Derived.Test.YtidnhafllbckcaaGRead
import Derived.Deep.RegionLaw
import Derived.Laws.AppendOwnNone
namespace Go.Proofs.Ytidnhafllbckcaa
open Go.RowKit
set_option linter.unusedVariables false
set_option linter.unusedSimpArgs false

/-- What is appended: the cells of so many expressions. -/
def SrcW (w : World) (sv : Value) (m : Nat) (news : List Value) : Prop := news.length = m * 4 ∧ (∀ u ∈ news, u.oneCell' = true) ∧ ((m = 0 ∧ ∃ c, sv = .slice none 0 c) ∨ ∃ a c, sv = .slice (some a) m c ∧ ∀ j u, news[j]? = some u → w.cell? (a.add j) = some u)

theorem SrcW.keep {w w' : World} {sv : Value} {m : Nat} {news : List Value} (h : SrcW w sv m news) (g : w.grownBy w' none) : SrcW w' sv m news := by
  obtain ⟨h1, h2, h3⟩ := h
  refine ⟨h1, h2, ?_⟩
  rcases h3 with h3 | ⟨a, c, e, h3⟩
  · exact .inl h3
  · exact .inr ⟨a, c, e, fun j u hu => gr_cell g (h3 j u hu)⟩

/-- The result of an append onto a row of one's own. -/
theorem run_append_w {P : Program} (W : World) (t ty : TypeId) (base : Nat) (h1 : P.underlying t = some (.slice 24)) (hinfo : (P.info? 24).map (fun i => (i.zero, i.size, i.bytes)) = some (some (.agg #[.int .i64 0, .int .i64 0, .bool false, .slice none 0 0]), 4, 48))
    (v : Value) (n : Nat) (xs : List Value) (hown : W.ownsRow base 24 4 v n xs) (sv : Value) (m : Nat) (news : List Value) (hsrc : SrcW W sv m news) (hlen : n + m ≤ 2000000) (hbase : base ≤ W.heap.size) :
    ∃ ao cap w', (Builtin.append_ #[t, t] ty #[v, sv]).run P W = .ok (.slice ao (n + m) cap) w' ∧ w'.ownsRow base 24 4 (.slice ao (n + m) cap) (n + m) (xs ++ news) ∧ W.grownBy w' v.ownBlock ∧ ((Value.slice ao (n + m) cap).ownBlock = v.ownBlock ∨ (Value.slice ao (n + m) cap).ownBlock = some W.heap.size) := by
  obtain ⟨i0, hi0, hz0, hz1, hz2⟩ := info_parts hinfo
  obtain ⟨hl, h1c, h3⟩ := hsrc
  have shape : ∀ {w' : World} {v' : Value} {k : Nat} {ys : List Value}, w'.ownsRow base 24 4 v' k ys → ∃ ao cap, v' = .slice ao k cap := fun h => by
    rcases h.2 with ⟨rfl, e⟩ | ⟨g, cap, cur, rfl, _⟩
    · exact ⟨none, 0, by rw [e]⟩
    · exact ⟨_, _, rfl⟩
  rcases h3 with ⟨rfl, c, rfl⟩ | ⟨a, c, rfl, hc⟩
  · have hr : (Builtin.append_ #[t, t] ty #[v, .slice none 0 c]).run P W = .ok v W := by
      rcases hown.2 with ⟨rfl, rfl⟩ | ⟨g, cap, cur, rfl, _, _, hnc, _⟩
      · simp [Builtin.append_, run_underlying h1, sizeOf, typeInfo, hi0, Builtin.lenOf, Builtin.firstCells]
      · simp [Builtin.append_, run_underlying h1, sizeOf, typeInfo, hi0, Builtin.lenOf, Builtin.firstCells, hnc, storeCells]
    have hn : news = [] := List.eq_nil_of_length_eq_zero (by simpa using hl)
    subst hn
    obtain ⟨ao, cap, rfl⟩ := shape hown
    exact ⟨ao, cap, W, hr, by simpa using hown, gr_refl _ _, .inl rfl⟩
  · obtain ⟨v', w', hr, h5, h6, _, h7⟩ := run_append_own_at (P := P) W base t ty _ i0 _ 4 48 h1 hi0 hz0 hz1 hz2 rfl (by decide) v n xs hown a m c news hl hc h1c (by unfold maxLen; omega) (by omega) hbase
    obtain ⟨ao, cap, rfl⟩ := shape h5
    exact ⟨ao, cap, w', hr, h5, h6, h7⟩

theorem step_append_w {P : Program} (W : World) {ops : Array Oper} {o : Oper} {a : Act} {K : Act → World → Prop} {Q : Exit → Act → World → Prop} {E : Prop}
    (hg : o.guard = none) (s x : Operand) (t : TypeId) (ho : o.op = .call { callee := .builtin .append, args := #[s, x], argTypes := #[t, t] }) (base : Nat)
    (h1 : P.underlying t = some (.slice 24)) (hinfo : (P.info? 24).map (fun i => (i.zero, i.size, i.bytes)) = some (some (.agg #[.int .i64 0, .int .i64 0, .bool false, .slice none 0 0]), 4, 48))
    (v : Value) (n : Nat) (xs : List Value) (hs : a.eval s = v) (hown : W.ownsRow base 24 4 v n xs) (sv : Value) (m : Nat) (news : List Value) (hx : a.eval x = sv) (hsrc : SrcW W sv m news) (hlen : n + m ≤ 2000000) (hbase : base ≤ W.heap.size)
    (hK : ∀ ao cap w', w'.ownsRow base 24 4 (.slice ao (n + m) cap) (n + m) (xs ++ news) → W.grownBy w' v.ownBlock → ((Value.slice ao (n + m) cap).ownBlock = v.ownBlock ∨ (Value.slice ao (n + m) cap).ownBlock = some W.heap.size) → K (a.put o.dst (.slice ao (n + m) cap)) w') :
    if Region.wanted o (yielded ops a.tmps) = true then Oper.wp P o a W K Q else E := by
  have hw : Region.wanted o (yielded ops a.tmps) = true := by simp [Region.wanted, hg]
  rw [if_pos hw]
  obtain ⟨ao, cap, w', hr, h2, h3, h4⟩ := run_append_w (P := P) W t o.type base h1 hinfo v n xs hown sv m news hsrc hlen hbase
  unfold Oper.wp execOp
  simp only [ho, resolve, invoke, builtin, Sem.run_bind, Sem.run_pure, Result.andThen_ok, List.map_toArray, List.map_cons, List.map_nil, hs, hx, hr]
  exact hK ao cap w' h2 h3 h4

/-- Expressions of whatever depth. -/
abbrev Any : Type := (n : Nat) × Ex n

/-- The cells of a list of them. -/
def CellsOf (w : World) (S : List Any) (xs : List Value) : Prop := xs.length = S.length * 4 ∧ ∀ j (h : j < S.length), ∃ (k i : Int) (b : Bool) (ao : Option Addr) (len cap : Nat), xs[j * 4]? = some (.int .i64 k) ∧ xs[j * 4 + 1]? = some (.int .i64 i) ∧ xs[j * 4 + 2]? = some (.bool b) ∧ xs[j * 4 + 3]? = some (.slice ao len cap) ∧ WayC w (S[j]).1 (.int .i64 k) (.int .i64 i) (.bool b) (.slice ao len cap) (S[j]).2

theorem CellsOf.one {w : World} {S : List Any} {xs : List Value} (h : CellsOf w S xs) : ∀ u ∈ xs, u.oneCell' = true := fun u hu => by
  obtain ⟨q, hq, rfl⟩ := List.getElem_of_mem hu
  obtain ⟨h1, h2⟩ := h
  obtain ⟨k, i, b, ao, len, cap, k0, k1, k2, k3, _⟩ := h2 (q / 4) (by omega)
  have hq4 : q = q / 4 * 4 ∨ q = q / 4 * 4 + 1 ∨ q = q / 4 * 4 + 2 ∨ q = q / 4 * 4 + 3 := by omega
  have e : ∀ r, r = q → ∀ u, xs[r]? = some u → xs[q] = u := fun r hr u hu2 => by
    subst hr
    rw [List.getElem?_eq_getElem hq] at hu2
    exact Option.some.inj hu2
  rcases hq4 with hr | hr | hr | hr
  · rw [e _ hr.symm _ k0]; rfl
  · rw [e _ hr.symm _ k1]; rfl
  · rw [e _ hr.symm _ k2]; rfl
  · rw [e _ hr.symm _ k3]; rfl

theorem CellsOf.append {w : World} {S T : List Any} {xs ys : List Value} (h : CellsOf w S xs) (k : CellsOf w T ys) : CellsOf w (S ++ T) (xs ++ ys) := by
  refine ⟨by simp [h.1, k.1]; omega, fun j hj => ?_⟩
  rw [List.length_append] at hj
  have hx := h.1
  by_cases hlt : j < S.length
  · obtain ⟨a, b, c, d, e, f, k0, k1, k2, k3, hk⟩ := h.2 j hlt
    refine ⟨a, b, c, d, e, f, ?_, ?_, ?_, ?_, ?_⟩
    · rw [List.getElem?_append_left (by omega)]; exact k0
    · rw [List.getElem?_append_left (by omega)]; exact k1
    · rw [List.getElem?_append_left (by omega)]; exact k2
    · rw [List.getElem?_append_left (by omega)]; exact k3
    · rw [List.getElem_append_left hlt]; exact hk
  · obtain ⟨a, b, c, d, e, f, k0, k1, k2, k3, hk⟩ := k.2 (j - S.length) (by omega)
    refine ⟨a, b, c, d, e, f, ?_, ?_, ?_, ?_, ?_⟩
    · rw [List.getElem?_append_right (by omega), show j * 4 - xs.length = (j - S.length) * 4 by omega]; exact k0
    · rw [List.getElem?_append_right (by omega), show j * 4 + 1 - xs.length = (j - S.length) * 4 + 1 by omega]; exact k1
    · rw [List.getElem?_append_right (by omega), show j * 4 + 2 - xs.length = (j - S.length) * 4 + 2 by omega]; exact k2
    · rw [List.getElem?_append_right (by omega), show j * 4 + 3 - xs.length = (j - S.length) * 4 + 3 by omega]; exact k3
    · rw [List.getElem_append_right (by omega)]; exact hk

theorem CellsOf.tail {w : World} {s : Any} {S : List Any} {xs : List Value} (h : CellsOf w (s :: S) xs) : CellsOf w S (xs.drop 4) := by
  have hl := h.1
  rw [List.length_cons] at hl
  refine ⟨by rw [List.length_drop]; omega, fun j hj => ?_⟩
  obtain ⟨a, b, c, d, e, f, k0, k1, k2, k3, hk⟩ := h.2 (j + 1) (by simpa using hj)
  refine ⟨a, b, c, d, e, f, ?_, ?_, ?_, ?_, hk⟩
  · rw [List.getElem?_drop, show 4 + j * 4 = (j + 1) * 4 by omega]; exact k0
  · rw [List.getElem?_drop, show 4 + (j * 4 + 1) = (j + 1) * 4 + 1 by omega]; exact k1
  · rw [List.getElem?_drop, show 4 + (j * 4 + 2) = (j + 1) * 4 + 2 by omega]; exact k2
  · rw [List.getElem?_drop, show 4 + (j * 4 + 3) = (j + 1) * 4 + 3 by omega]; exact k3

/-- A slice in memory that holds these cells. -/
def RowL (w : World) (v : Value) (m : Nat) (xs : List Value) : Prop := xs.length = m * 4 ∧ ∃ ao cap, v = .slice ao m cap ∧ m ≤ cap ∧ cap ≤ maxLen ∧ ((ao = none ∧ m = 0 ∧ cap = 0) ∨ ∃ b off, ao = some ⟨b, off, none⟩ ∧ b < w.heap.size ∧ ∀ j u, xs[j]? = some u → w.cell? ⟨b, off + j, none⟩ = some u)

theorem RowL.keep {w w' : World} {v : Value} {m : Nat} {xs : List Value} (h : RowL w v m xs) (g : w.grownBy w' none) : RowL w' v m xs := by
  obtain ⟨h1, ao, cap, e, h2, h3, h4⟩ := h
  refine ⟨h1, ao, cap, e, h2, h3, ?_⟩
  rcases h4 with h4 | ⟨b, off, e, hb, h4⟩
  · exact .inl h4
  · exact .inr ⟨b, off, e, Nat.lt_of_lt_of_le hb g.size, fun j u hu => gr_cell g (h4 j u hu)⟩

/-- What is wrong with the uppermost node; what lies below it; how many nodes. -/
def wrongA (k : Int) : Any → Int
  | ⟨0, _⟩ => 0
  | ⟨_ + 1, t⟩ => wrongW k t.1 t.2.1 t.2.2.1 t.2.2.2.length
def kidsA : Any → List Any
  | ⟨0, _⟩ => []
  | ⟨n + 1, t⟩ => t.2.2.2.map fun u => ⟨n, u⟩
def szS (S : List Any) : Nat := (S.map fun s => szE s.1 s.2).sum

/-- The document's way: one behind the other, each ahead of those below it. -/
def chkF (k : Int) : Nat → List Any → Int
  | _, [] => 0
  | 0, s :: _ => if wrongA k s = 0 then 2 else wrongA k s
  | F + 1, s :: r => if wrongA k s = 0 then chkF k F (kidsA s ++ r) else wrongA k s

theorem chk_bad {k : Int} {s : Any} (h : wrongA k s ≠ 0) (F : Nat) (r : List Any) : chkF k F (s :: r) = wrongA k s := by
  cases F with
  | zero => rw [chkF, if_neg h]
  | succ F => rw [chkF, if_neg h]
theorem chk_many {k : Int} {s : Any} (h : wrongA k s = 0) (r : List Any) : chkF k 0 (s :: r) = 2 := by rw [chkF, if_pos h]
theorem chk_next {k : Int} {s : Any} (h : wrongA k s = 0) (F : Nat) (r : List Any) : chkF k (F + 1) (s :: r) = chkF k F (kidsA s ++ r) := by rw [chkF, if_pos h]

theorem chk_list (k : Int) (n : Nat) (h : ∀ (t : Ex n) (a : Nat) (r : List Any), a ≤ 40 → chkF k (40 - a) (⟨n, t⟩ :: r) = if (countE k n t a).2 = 0 then chkF k (40 - (countE k n t a).1) r else (countE k n t a).2) :
    ∀ (l : List (Ex n)) (a : Nat) (r : List Any), a ≤ 40 → chkF k (40 - a) ((l.map fun u => (⟨n, u⟩ : Any)) ++ r) = if (cntL (countE k n) l a).2 = 0 then chkF k (40 - (cntL (countE k n) l a).1) r else (cntL (countE k n) l a).2
  | [], a, r, ha => by simp [cntL]
  | t :: l, a, r, ha => by
    rw [List.map_cons, List.cons_append, h t a _ ha, cntL]
    split
    · exact chk_list k n h l _ r (countE_le k n t a ha)
    · rename_i h0
      simp [h0]

theorem chk_count (k : Int) : ∀ (n : Nat) (t : Ex n) (a : Nat) (r : List Any), a ≤ 40 → chkF k (40 - a) (⟨n, t⟩ :: r) = if (countE k n t a).2 = 0 then chkF k (40 - (countE k n t a).1) r else (countE k n t a).2
  | 0, t, _, _, _ => t.elim
  | n + 1, t, a, r, ha => by
    obtain ⟨x, hx⟩ : ∃ x, x = wrongW k t.1 t.2.1 t.2.2.1 t.2.2.2.length := ⟨_, rfl⟩
    have hwa : wrongA k ⟨n + 1, t⟩ = x := hx.symm
    have hct : countE k (n + 1) t a = if x = 0 then (if a = 40 then (0, 2) else cntL (countE k n) t.2.2.2 (a + 1)) else (0, x) := by rw [hx]; rfl
    by_cases h0 : x = 0
    · rw [if_pos h0] at hct
      by_cases h40 : a = 40
      · subst h40
        rw [if_pos rfl] at hct
        rw [hct]
        show (if wrongA k ⟨n + 1, t⟩ = 0 then 2 else _) = _
        rw [if_pos (hwa.trans h0)]
        rfl
      · rw [if_neg h40] at hct
        rw [hct]
        obtain ⟨F, hF⟩ : ∃ F, 40 - a = F + 1 := ⟨40 - a - 1, by omega⟩
        rw [hF, chkF, if_pos (hwa.trans h0)]
        have := chk_list k n (fun t a r ha => chk_count k n t a r ha) t.2.2.2 (a + 1) r (by omega)
        rw [show 40 - (a + 1) = F by omega] at this
        exact this
    · rw [if_neg h0] at hct
      rw [hct]
      have hne : wrongA k ⟨n + 1, t⟩ ≠ 0 := fun e => h0 (hwa.symm.trans e)
      obtain ⟨F, hF⟩ | hF : (∃ F, 40 - a = F + 1) ∨ 40 - a = 0 := by
        by_cases h : 40 - a = 0
        · exact .inr h
        · exact .inl ⟨40 - a - 1, by omega⟩
      · rw [hF, chkF, if_neg hne, hwa]
        simp [h0]
      · rw [hF, chkF, if_neg hne, hwa]
        simp [h0]

theorem chk_check (k : Int) (n : Nat) (t : Ex n) : chkF k 40 [⟨n, t⟩] = (countE k n t 0).2 := by
  have h := chk_count k n t 0 [] (by omega)
  rw [h]
  split
  · rename_i h0
    rw [h0]
    cases (40 - (countE k n t 0).1) <;> rfl
  · rfl

theorem szE_pos (s : Any) (k i : Int) (b : Bool) (h : s.1 ≠ 0) : 1 ≤ szE s.1 s.2 := by
  obtain ⟨n, t⟩ := s
  match n, t, h with
  | n + 1, t, _ => show 1 ≤ 1 + _; omega
  | 0, t, h => exact absurd rfl h

theorem szS_kids (n : Nat) (t : Ex (n + 1)) (r : List Any) : szS (kidsA ⟨n + 1, t⟩ ++ r) + 1 = szS (⟨n + 1, t⟩ :: r) := by
  unfold szS
  rw [List.map_append, List.sum_append_nat, List.map_cons, List.sum_cons]
  show ((t.2.2.2.map fun u => (⟨n, u⟩ : Any)).map fun s => szE s.1 s.2).sum + _ + 1 = 1 + (t.2.2.2.map (szE n)).sum + _
  rw [List.map_map]
  have : ((fun s : Any => szE s.1 s.2) ∘ fun u => (⟨n, u⟩ : Any)) = szE n := rfl
  rw [this]
  omega

theorem len_szS {w : World} {S : List Any} {xs : List Value} (h : CellsOf w S xs) : S.length ≤ szS S := by
  have hp : ∀ s ∈ S, 1 ≤ szE s.1 s.2 := fun s hs => by
    obtain ⟨j, hj, rfl⟩ := List.getElem_of_mem hs
    obtain ⟨k, i, b, ao, len, cap, _, _, _, _, hk⟩ := h.2 j hj
    refine szE_pos _ k i b fun e => ?_
    generalize S[j] = s at hk e
    obtain ⟨n, t⟩ := s
    dsimp only at e
    subst e
    exact t.elim
  unfold szS
  clear h
  induction S with
  | nil => simp
  | cons s r ih =>
    have h1 := hp s (by simp)
    have h2 := ih fun u hu => hp u (by simp [hu])
    simp only [List.map_cons, List.sum_cons, List.length_cons]
    omega

theorem own_rowL {w : World} {base : Nat} {ao : Option Addr} {m cap : Nat} {xs : List Value} (h : w.ownsRow base 24 4 (.slice ao m cap) m xs) : RowL w (.slice ao m cap) m xs := by
  refine ⟨h.1, ao, cap, rfl, ?_⟩
  rcases h.2 with ⟨e, e2⟩ | ⟨g, cap2, cur, e, hb, hg, h4, h5, h6, h7⟩
  · simp only [Value.slice.injEq] at e
    obtain ⟨rfl, rfl, rfl⟩ := e
    exact ⟨Nat.le_refl _, Nat.zero_le _, .inl ⟨rfl, rfl, rfl⟩⟩
  · simp only [Value.slice.injEq, true_and] at e
    obtain ⟨rfl, rfl⟩ := e
    refine ⟨h4, h5, .inr ⟨g, 0, rfl, (Array.getElem?_eq_some_iff.1 hg).1, fun q u hu => ?_⟩⟩
    rw [← h7] at hu
    have hi : q < m * 4 := by
      have := (List.getElem?_eq_some_iff.1 hu).1
      rw [List.length_take] at this
      omega
    rw [List.getElem?_take_of_lt hi] at hu
    rw [Nat.zero_add]
    simpa [World.cell?, hg] using hu

/-- Cells of four, one behind the other. -/
def four (q : Value × Value × Value × Value) : List Value := [q.1, q.2.1, q.2.2.1, q.2.2.2]
theorem four_len : ∀ qs : List (Value × Value × Value × Value), (qs.flatMap four).length = qs.length * 4
  | [] => rfl
  | q :: r => by
    rw [List.flatMap_cons, List.length_append, four_len r]
    simp [four]
    omega
theorem four_get : ∀ (qs : List (Value × Value × Value × Value)) (j : Nat) (h : j < qs.length), (qs.flatMap four)[j * 4]? = some (qs[j]).1 ∧ (qs.flatMap four)[j * 4 + 1]? = some (qs[j]).2.1 ∧ (qs.flatMap four)[j * 4 + 2]? = some (qs[j]).2.2.1 ∧ (qs.flatMap four)[j * 4 + 3]? = some (qs[j]).2.2.2
  | q :: r, 0, _ => ⟨rfl, rfl, rfl, rfl⟩
  | q :: r, j + 1, h => by
    have := four_get r j (by simpa using h)
    have e : (q :: r).flatMap four = q.1 :: q.2.1 :: q.2.2.1 :: q.2.2.2 :: r.flatMap four := rfl
    rw [e, show (j + 1) * 4 = j * 4 + 1 + 1 + 1 + 1 by omega]
    simpa using this

/-- The cells of those below. -/
theorem kids_cells {w : World} {n : Nat} {ao : Option Addr} {l : List (Ex n)} {cap : Nat} (h : WayR w n ao l) : ∃ xs, CellsOf w (l.map fun u => (⟨n, u⟩ : Any)) xs ∧ SrcW w (.slice ao l.length cap) l.length xs := by
  obtain ⟨qs, hqs, hP⟩ := list_choose (P := fun j (q : Value × Value × Value × Value) => ∀ hj : j < l.length, ∃ b off, ao = some ⟨b, off, none⟩ ∧ w.cell? ⟨b, off + j * 4, none⟩ = some q.1 ∧ w.cell? ⟨b, off + j * 4 + 1, none⟩ = some q.2.1 ∧ w.cell? ⟨b, off + j * 4 + 2, none⟩ = some q.2.2.1 ∧ w.cell? ⟨b, off + j * 4 + 3, none⟩ = some q.2.2.2 ∧ WayC w n q.1 q.2.1 q.2.2.1 q.2.2.2 (l[j])) l.length (fun j hj => by
    obtain ⟨b, off, e, hb, d0, d1, d2, d3, k0, k1, k2, k3, hk⟩ := h j hj
    exact ⟨(d0, d1, d2, d3), fun _ => ⟨b, off, e, k0, k1, k2, k3, hk⟩⟩)
  have hcell : CellsOf w (l.map fun u => (⟨n, u⟩ : Any)) (qs.flatMap four) := by
    refine ⟨by rw [four_len, hqs, List.length_map], fun j hj => ?_⟩
    rw [List.length_map] at hj
    obtain ⟨b, off, e, k0, k1, k2, k3, hk⟩ := hP j (by omega) hj
    obtain ⟨g0, g1, g2, g3⟩ := four_get qs j (by omega)
    obtain ⟨kd, i, bo, ao2, len2, cap2, e0, e1, e2, e3⟩ := hk.cells
    rw [List.getElem_map]
    rw [e0, e1, e2, e3] at hk
    exact ⟨kd, i, bo, ao2, len2, cap2, by rw [g0, e0], by rw [g1, e1], by rw [g2, e2], by rw [g3, e3], hk⟩
  refine ⟨_, hcell, by rw [four_len, hqs], hcell.one, ?_⟩
  cases ao with
  | none =>
    left
    have : l.length = 0 := by
      by_cases h0 : 0 < l.length
      · obtain ⟨b, off, e, _⟩ := h 0 h0
        cases e
      · omega
    exact ⟨this, cap, by rw [this]⟩
  | some a =>
    refine .inr ⟨a, cap, rfl, fun q u hu => ?_⟩
    have hq : q < qs.length * 4 := by
      have := (List.getElem?_eq_some_iff.1 hu).1
      rw [four_len] at this
      exact this
    obtain ⟨b, off, e, k0, k1, k2, k3, hk⟩ := hP (q / 4) (by omega) (by omega)
    obtain ⟨g0, g1, g2, g3⟩ := four_get qs (q / 4) (by omega)
    obtain rfl := Option.some.inj e
    have ad : (⟨b, off, none⟩ : Addr).add q = ⟨b, off + q, none⟩ := by
      unfold Addr.add
      by_cases h0 : q = 0 <;> simp [h0]
    rw [ad]
    have hq4 : q = q / 4 * 4 ∨ q = q / 4 * 4 + 1 ∨ q = q / 4 * 4 + 2 ∨ q = q / 4 * 4 + 3 := by omega
    rcases hq4 with hr | hr | hr | hr
    · rw [← hr] at g0 k0; rw [g0] at hu; rw [k0, ← hu]
    · rw [← hr] at g1; rw [show off + q / 4 * 4 + 1 = off + q by omega] at k1; rw [g1] at hu; rw [k1, ← hu]
    · rw [← hr] at g2; rw [show off + q / 4 * 4 + 2 = off + q by omega] at k2; rw [g2] at hu; rw [k2, ← hu]
    · rw [← hr] at g3; rw [show off + q / 4 * 4 + 3 = off + q by omega] at k3; rw [g3] at hu; rw [k3, ← hu]
end Go.Proofs.Ytidnhafllbckcaa
