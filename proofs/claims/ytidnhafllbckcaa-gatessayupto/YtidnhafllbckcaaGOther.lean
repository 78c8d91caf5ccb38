/- voltaiclaw: other. -/
import Derived.Test.YtidnhafllbckcaaGMath2
import Derived.Maps.AppendAt
namespace Go.Proofs.Ytidnhafllbckcaa
open Go.RowKit
set_option linter.unusedVariables false
set_option linter.unusedSimpArgs false

/-- One more behind a row. -/
theorem RowX.snoc {w : World} {ok : Nat → Prop} {xs : List Value} {n : Nat} {l : List (Ex n)} {v0 v1 v2 v3 : Value} {t : Ex n} (h : RowX w ok xs.toArray n l) (hs : xs.length = l.length * 4) (ht : WayP w ok n v0 v1 v2 v3 t) :
    RowX w ok (xs ++ [v0, v1, v2, v3]).toArray n (l ++ [t]) := fun j hj => by
  rw [List.length_append, List.length_singleton] at hj
  by_cases hlt : j < l.length
  · obtain ⟨d0, d1, d2, d3, k0, k1, k2, k3, hk⟩ := h j hlt
    rw [List.getElem?_toArray] at k0 k1 k2 k3
    refine ⟨d0, d1, d2, d3, ?_, ?_, ?_, ?_, ?_⟩
    · rw [List.getElem?_toArray, List.getElem?_append_left (by omega)]; exact k0
    · rw [List.getElem?_toArray, List.getElem?_append_left (by omega)]; exact k1
    · rw [List.getElem?_toArray, List.getElem?_append_left (by omega)]; exact k2
    · rw [List.getElem?_toArray, List.getElem?_append_left (by omega)]; exact k3
    · rw [List.getElem_append_left hlt]; exact hk
  · obtain rfl : j = l.length := by omega
    refine ⟨v0, v1, v2, v3, ?_, ?_, ?_, ?_, ?_⟩
    · rw [List.getElem?_toArray, List.getElem?_append_right (by omega), hs]; simp
    · rw [List.getElem?_toArray, List.getElem?_append_right (by omega), hs]; simp
    · rw [List.getElem?_toArray, List.getElem?_append_right (by omega), hs]; simp
    · rw [List.getElem?_toArray, List.getElem?_append_right (by omega), hs]; simp
    · rw [List.getElem_append_right (Nat.le_refl _)]; simpa using ht

/-- A slice of expressions that the call itself has made. -/
structure WayO (w : World) (base : Nat) (v : Value) (n : Nat) (l : List (Ex n)) : Prop where
  own : ∃ xs, w.ownsRow base 24 4 v l.length xs ∧ xs.length = l.length * 4 ∧ RowX w (fun b => base ≤ b ∧ some b ≠ v.ownBlock) xs.toArray n l

theorem WayO.nil (w : World) (base n : Nat) : WayO w base (.slice none 0 0) n [] := ⟨[], World.ownsRow_nil _ _ _ _, rfl, fun j h => absurd h (Nat.not_lt_zero _)⟩
theorem WayO.shape {w : World} {base : Nat} {v : Value} {n : Nat} {l : List (Ex n)} (h : WayO w base v n l) : ∃ ao cap, v = .slice ao l.length cap := by
  obtain ⟨xs, h1, _⟩ := h.own
  rcases h1.2 with ⟨rfl, e⟩ | ⟨g, cap, cur, rfl, _⟩
  · exact ⟨none, 0, by rw [e]⟩
  · exact ⟨_, _, rfl⟩
theorem WayO.keep {w w' : World} {base : Nat} {v : Value} {n : Nat} {l : List (Ex n)} {r : Option Nat} (h : WayO w base v n l) (g : w.grownBy w' r) (hr : ∀ b, r = some b → b < base) : WayO w' base v n l := by
  obtain ⟨xs, h1, h2, h3⟩ := h.own
  refine ⟨xs, h1.kept g ?_, h2, h3.keep g fun b _ hb => ⟨fun e => ?_, hb⟩⟩
  · cases hv : v.ownBlock with
    | none => exact .inl rfl
    | some k =>
      right
      intro e
      have h5 := (h1.lt k hv).1
      have h6 := hr k e.symm
      omega
  · have := hr b e.symm
    have := hb.1
    omega
theorem WayO.read {w : World} {base : Nat} {ao : Option Addr} {cap : Nat} {n : Nat} {l : List (Ex n)} {k i : Int} {b : Bool} (h : WayO w base (.slice ao l.length cap) n l) : WayP w (fun b => base ≤ b) (n + 1) (.int .i64 k) (.int .i64 i) (.bool b) (.slice ao l.length cap) (k, i, b, l) := by
  obtain ⟨xs, h1, h2, h3⟩ := h.own
  rcases h1.2 with ⟨e, e2⟩ | ⟨g, cap2, cur, e, hb, hg, h4, h5, h6, h7⟩
  · simp only [Value.slice.injEq] at e
    obtain ⟨rfl, e3, rfl⟩ := e
    refine ⟨rfl, rfl, rfl, none, 0, rfl, by show l.length ≤ 0; omega, Nat.zero_le _, fun j hj => ?_⟩
    have : j < l.length := hj
    omega
  · simp only [Value.slice.injEq, true_and] at e
    obtain ⟨rfl, rfl⟩ := e
    refine ⟨rfl, rfl, rfl, _, cap, rfl, h4, h5, fun j hj => ?_⟩
    have hj2 : j < l.length := hj
    obtain ⟨d0, d1, d2, d3, k0, k1, k2, k3, hk⟩ := h3 j hj2
    have hc : ∀ q u, xs.toArray[q]? = some u → w.cell? ⟨g, q, none⟩ = some u := fun q u hu => by
      rw [List.getElem?_toArray, ← h7] at hu
      have hi : q < l.length * 4 := by
        have := (List.getElem?_eq_some_iff.1 hu).1
        rw [List.length_take] at this
        omega
      rw [List.getElem?_take_of_lt hi] at hu
      simpa [World.cell?, hg] using hu
    refine ⟨g, 0, rfl, (Array.getElem?_eq_some_iff.1 hg).1, hb, d0, d1, d2, d3, ?_, ?_, ?_, ?_, hk.keep (gr_refl _ none) fun b _ h => ⟨by simp, h.1⟩⟩
    · rw [Nat.zero_add]; exact hc _ _ k0
    · rw [Nat.zero_add]; exact hc _ _ k1
    · rw [Nat.zero_add]; exact hc _ _ k2
    · rw [Nat.zero_add]; exact hc _ _ k3

theorem WayO.gr {w w1 w2 : World} {base : Nat} {v : Value} {n : Nat} {l : List (Ex n)} (h : WayO w1 base v n l) (g : w.grownBy w1 none) (k : w1.grownBy w2 v.ownBlock) (hb : w.heap.size ≤ base) : w.grownBy w2 none := by
  obtain ⟨xs, h1, _⟩ := h.own
  exact gr_trans g k (fun _ _ e => e) (fun b hb2 e => by
    have := (h1.lt b e.symm).1
    omega)
theorem WayO.ne {w : World} {base b : Nat} {v : Value} {n : Nat} {l : List (Ex n)} (h : WayO w base v n l) (hb : b < base) : some b ≠ v.ownBlock := by
  obtain ⟨xs, h1, _⟩ := h.own
  intro e
  have := (h1.lt b e.symm).1
  omega

/-- 'l = append(l, x)'. -/
theorem wpList_append_way {P : Program} (W : World) {ops : Array Oper} {rest : List Oper} {o : Oper} {a : Act} {Q : Exit → Act → World → Prop}
    (hg : o.guard = none) (s x : Operand) (t : TypeId) (ho : o.op = .call { callee := .builtin .append, args := #[s, x], argTypes := #[t, t] }) (base : Nat)
    (h1 : P.underlying t = some (.slice 24)) (hinfo : (P.info? 24).map (fun i => (i.zero, i.size, i.bytes)) = some (some (.agg #[.int .i64 0, .int .i64 0, .bool false, .slice none 0 0]), 4, 48))
    (v : Value) (n : Nat) (l : List (Ex n)) (hs : a.eval s = v) (hown : WayO W base v n l) (b : Nat) (k i : Int) (bo : Bool) (ao : Option Addr) (len cap : Nat) (u : Ex n) (hx : a.eval x = .slice (some ⟨b, 0, none⟩) 1 1) (hbx : BoxC W b #[.int .i64 k, .int .i64 i, .bool bo, .slice ao len cap])
    (hu : WayP W (fun b => base ≤ b ∧ some b ≠ v.ownBlock) n (.int .i64 k) (.int .i64 i) (.bool bo) (.slice ao len cap) u)
    (hlen : l.length ≤ 100000) (hbase : base ≤ W.heap.size)
    (hK : ∀ ao2 cap2 w', WayO w' base (.slice ao2 (l.length + 1) cap2) n (l ++ [u]) → W.grownBy w' v.ownBlock → wpList P ops Q rest (a.put o.dst (.slice ao2 (l.length + 1) cap2)) w') : wpList P ops Q (o :: rest) a W := by
  obtain ⟨i0, hi0, hz0, hz1, hz2⟩ := info_parts hinfo
  obtain ⟨xs, hx1, hx2, hx3⟩ := hown.own
  refine wpList_append_own_at W hg s x t ho base _ i0 _ 4 48 h1 hi0 hz0 hz1 hz2 rfl (by decide) v l.length xs hs hx1 ⟨b, 0, none⟩ 1 1 [.int .i64 k, .int .i64 i, .bool bo, .slice ao len cap] hx rfl ?_ ?_ (by unfold maxLen; omega) (by omega) hbase ?_
  · intro j y hy
    have hc : W.cell? ⟨b, j, none⟩ = some y := by rw [hbx.cell]; simpa using hy
    unfold Addr.add
    by_cases h0 : j = 0
    · subst h0; simpa using hc
    · simpa [h0] using hc
  · intro y hy
    simp at hy
    rcases hy with rfl | rfl | rfl | rfl <;> rfl
  · intro v' w' hown' hgr _ hat
    have hsn := (hx3.snoc hx2 hu).keep (ok' := fun b => base ≤ b ∧ some b ≠ v'.ownBlock) hgr fun b hb hok => ⟨hok.2, hok.1, fun e => by
      rcases hat with e2 | e2
      · exact hok.2 (e.trans e2)
      · have := Option.some.inj (e.trans e2)
        omega⟩
    have h2 : WayO w' base v' n (l ++ [u]) := ⟨_, by rw [List.length_append]; exact hown', by simp [hx2]; omega, hsn⟩
    obtain ⟨ao2, cap2, ev⟩ := h2.shape
    rw [List.length_append, List.length_singleton] at ev
    subst ev
    exact hK ao2 cap2 w' h2 hgr
end Go.Proofs.Ytidnhafllbckcaa
