/- Expressions in memory, with what is known of their blocks; rows of them that a call makes. -/
import Derived.Test.YtidnhafllbckcaaGLeads
import Derived.Test.YtidnhafllbckcaaGArr
namespace Go.Proofs.Ytidnhafllbckcaa
open Go.RowKit
set_option linter.unusedVariables false
set_option linter.unusedSimpArgs false

/-- Four cells of memory hold an expression, all of whose blocks are so. -/
def WayP (w : World) (ok : Nat → Prop) : (n : Nat) → Value → Value → Value → Value → Ex n → Prop
  | 0, _, _, _, _, _ => False
  | n + 1, c0, c1, c2, c3, t => c0 = .int .i64 t.1 ∧ c1 = .int .i64 t.2.1 ∧ c2 = .bool t.2.2.1 ∧ ∃ ao cap, c3 = .slice ao t.2.2.2.length cap ∧ t.2.2.2.length ≤ cap ∧ cap ≤ maxLen ∧
      ∀ j (h : j < t.2.2.2.length), ∃ b off, ao = some ⟨b, off, none⟩ ∧ b < w.heap.size ∧ ok b ∧ ∃ d0 d1 d2 d3, w.cell? ⟨b, off + j * 4, none⟩ = some d0 ∧ w.cell? ⟨b, off + j * 4 + 1, none⟩ = some d1 ∧ w.cell? ⟨b, off + j * 4 + 2, none⟩ = some d2 ∧ w.cell? ⟨b, off + j * 4 + 3, none⟩ = some d3 ∧ WayP w ok n d0 d1 d2 d3 (t.2.2.2[j])

theorem WayP.way : ∀ {n : Nat} {w : World} {ok : Nat → Prop} {c0 c1 c2 c3 : Value} {t : Ex n}, WayP w ok n c0 c1 c2 c3 t → WayC w n c0 c1 c2 c3 t
  | 0, _, _, _, _, _, _, _, h => h
  | n + 1, w, ok, c0, c1, c2, c3, t, h => by
    obtain ⟨e0, e1, e2, ao, cap, e3, h1, h2, h3⟩ := h
    refine ⟨e0, e1, e2, ao, cap, e3, h1, h2, fun j hj => ?_⟩
    obtain ⟨b, off, e, hb, _, d0, d1, d2, d3, k0, k1, k2, k3, hk⟩ := h3 j hj
    exact ⟨b, off, e, hb, d0, d1, d2, d3, k0, k1, k2, k3, hk.way⟩

theorem WayC.wayP : ∀ {n : Nat} {w : World} {c0 c1 c2 c3 : Value} {t : Ex n}, WayC w n c0 c1 c2 c3 t → WayP w (fun b => b < w.heap.size) n c0 c1 c2 c3 t
  | 0, _, _, _, _, _, _, h => h
  | n + 1, w, c0, c1, c2, c3, t, h => by
    obtain ⟨e0, e1, e2, ao, cap, e3, h1, h2, h3⟩ := h
    refine ⟨e0, e1, e2, ao, cap, e3, h1, h2, fun j hj => ?_⟩
    obtain ⟨b, off, e, hb, d0, d1, d2, d3, k0, k1, k2, k3, hk⟩ := h3 j hj
    exact ⟨b, off, e, hb, hb, d0, d1, d2, d3, k0, k1, k2, k3, hk.wayP⟩

theorem WayP.keep : ∀ {n : Nat} {w w' : World} {ok ok' : Nat → Prop} {r : Option Nat} {c0 c1 c2 c3 : Value} {t : Ex n}, WayP w ok n c0 c1 c2 c3 t → w.grownBy w' r → (∀ b, b < w.heap.size → ok b → some b ≠ r ∧ ok' b) → WayP w' ok' n c0 c1 c2 c3 t
  | 0, _, _, _, _, _, _, _, _, _, _, h, _, _ => h
  | n + 1, w, w', ok, ok', r, c0, c1, c2, c3, t, h, g, hr => by
    obtain ⟨e0, e1, e2, ao, cap, e3, h1, h2, h3⟩ := h
    refine ⟨e0, e1, e2, ao, cap, e3, h1, h2, fun j hj => ?_⟩
    obtain ⟨b, off, e, hb, ho, d0, d1, d2, d3, k0, k1, k2, k3, hk⟩ := h3 j hj
    have hn := hr b hb ho
    exact ⟨b, off, e, Nat.lt_of_lt_of_le hb g.size, hn.2, d0, d1, d2, d3, g.cell k0 hn.1, g.cell k1 hn.1, g.cell k2 hn.1, g.cell k3 hn.1, hk.keep g hr⟩

/-- Many places at once: a row of n expressions lies in block g, its cells cs. -/
def RowX (w : World) (ok : Nat → Prop) (cs : Array Value) (n : Nat) (l : List (Ex n)) : Prop :=
  ∀ j (h : j < l.length), ∃ d0 d1 d2 d3, cs[j * 4]? = some d0 ∧ cs[j * 4 + 1]? = some d1 ∧ cs[j * 4 + 2]? = some d2 ∧ cs[j * 4 + 3]? = some d3 ∧ WayP w ok n d0 d1 d2 d3 (l[j])

theorem RowX.keep {w w' : World} {ok ok' : Nat → Prop} {r : Option Nat} {cs : Array Value} {n : Nat} {l : List (Ex n)} (h : RowX w ok cs n l) (g : w.grownBy w' r) (hr : ∀ b, b < w.heap.size → ok b → some b ≠ r ∧ ok' b) : RowX w' ok' cs n l := fun j hj => by
  obtain ⟨d0, d1, d2, d3, k0, k1, k2, k3, hk⟩ := h j hj
  exact ⟨d0, d1, d2, d3, k0, k1, k2, k3, hk.keep g hr⟩

theorem set4_get (cs : Array Value) (p : Nat) (v0 v1 v2 v3 : Value) (h : p + 3 < cs.size) (q : Nat) :
    ((((cs.setIfInBounds p v0).setIfInBounds (p + 1) v1).setIfInBounds (p + 2) v2).setIfInBounds (p + 3) v3)[q]? = if q = p then some v0 else if q = p + 1 then some v1 else if q = p + 2 then some v2 else if q = p + 3 then some v3 else cs[q]? := by
  simp only [Array.getElem?_setIfInBounds, Array.size_setIfInBounds]
  by_cases e0 : q = p
  · subst e0; simp; omega
  · by_cases e1 : q = p + 1
    · subst e1; simp; omega
    · by_cases e2 : q = p + 2
      · subst e2; simp; omega
      · by_cases e3 : q = p + 3
        · subst e3; simp; omega
        · rw [if_neg (Ne.symm e3), if_neg (Ne.symm e2), if_neg (Ne.symm e1), if_neg (Ne.symm e0), if_neg e0, if_neg e1, if_neg e2, if_neg e3]

/-- One more is laid into its place. -/
theorem RowX.put {w : World} {ok : Nat → Prop} {cs : Array Value} {n : Nat} {l : List (Ex n)} {v0 v1 v2 v3 : Value} {t : Ex n} (h : RowX w ok cs n l) (hs : l.length * 4 + 3 < cs.size) (ht : WayP w ok n v0 v1 v2 v3 t) :
    RowX w ok ((((cs.setIfInBounds (l.length * 4) v0).setIfInBounds (l.length * 4 + 1) v1).setIfInBounds (l.length * 4 + 2) v2).setIfInBounds (l.length * 4 + 3) v3) n (l ++ [t]) := fun j hj => by
  rw [List.length_append, List.length_singleton] at hj
  by_cases hlt : j < l.length
  · obtain ⟨d0, d1, d2, d3, k0, k1, k2, k3, hk⟩ := h j hlt
    refine ⟨d0, d1, d2, d3, ?_, ?_, ?_, ?_, ?_⟩
    · rw [set4_get _ _ _ _ _ _ hs, if_neg (by omega), if_neg (by omega), if_neg (by omega), if_neg (by omega)]; exact k0
    · rw [set4_get _ _ _ _ _ _ hs, if_neg (by omega), if_neg (by omega), if_neg (by omega), if_neg (by omega)]; exact k1
    · rw [set4_get _ _ _ _ _ _ hs, if_neg (by omega), if_neg (by omega), if_neg (by omega), if_neg (by omega)]; exact k2
    · rw [set4_get _ _ _ _ _ _ hs, if_neg (by omega), if_neg (by omega), if_neg (by omega), if_neg (by omega)]; exact k3
    · rw [List.getElem_append_left hlt]; exact hk
  · obtain rfl : j = l.length := by omega
    refine ⟨v0, v1, v2, v3, ?_, ?_, ?_, ?_, ?_⟩
    · rw [set4_get _ _ _ _ _ _ hs, if_pos rfl]
    · rw [set4_get _ _ _ _ _ _ hs, if_neg (by omega), if_pos rfl]
    · rw [set4_get _ _ _ _ _ _ hs, if_neg (by omega), if_neg (by omega), if_pos rfl]
    · rw [set4_get _ _ _ _ _ _ hs, if_neg (by omega), if_neg (by omega), if_neg (by omega), if_pos rfl]
    · rw [List.getElem_append_right (Nat.le_refl _)]; simpa using ht

/-- A slice of a block that holds such a row. -/
theorem RowX.slice {w : World} {ok : Nat → Prop} {cs : Array Value} {n : Nat} {l : List (Ex n)} {g cap : Nat} {k i : Int} {b : Bool} (h : RowX w ok cs n l) (hb : BoxC w g cs) (ho : ok g) (h1 : l.length ≤ cap) (h2 : cap ≤ maxLen) :
    WayP w ok (n + 1) (.int .i64 k) (.int .i64 i) (.bool b) (.slice (some ⟨g, 0, none⟩) l.length cap) (k, i, b, l) := by
  refine ⟨rfl, rfl, rfl, some ⟨g, 0, none⟩, cap, rfl, h1, h2, fun j hj => ?_⟩
  obtain ⟨d0, d1, d2, d3, k0, k1, k2, k3, hk⟩ := h j hj
  exact ⟨g, 0, rfl, hb.lt, ho, d0, d1, d2, d3, by rw [Nat.zero_add, hb.cell]; exact k0, by rw [Nat.zero_add, hb.cell]; exact k1, by rw [Nat.zero_add, hb.cell]; exact k2, by rw [Nat.zero_add, hb.cell]; exact k3, hk⟩

theorem Try.infoWay : (Try.prog.info? 24).map (fun i => (i.zero, i.size, i.bytes)) = some (some (.agg #[.int .i64 0, .int .i64 0, .bool false, .slice none 0 0]), 4, 48) := by kernel_rfl

/-- 'make([]api.Way, n)'. -/
theorem wpList_make_w {P : Program} (e : TypeId) (z : Value) (w : World) {ops : Array Oper} {rest : List Oper} {o : Oper} {a : Act} {Q : Exit → Act → World → Prop}
    (hg : o.guard = none) (l c : Operand) (t : TypeId) (hop : o.op = Op.makeSlice t l c)
    (h1 : P.underlying t = some (.slice e)) (hinfo : (P.info? e).map (fun i => (i.zero, i.size, i.bytes)) = some (some z, 4, 48))
    (kl kc : IntKind) (L C : Int) (n : Nat) (hl : a.eval l = .int kl L) (hc : a.eval c = .int kc C) (hL : L = (n : Int)) (hC : C = (n : Int)) (b2 : n ≤ 1073741824)
    (hK : ∀ w' cs, cs.size = n * 4 → BoxC w' w.heap.size cs → w.grownBy w' none → wpList P ops Q rest (a.put o.dst (.slice (some ⟨w.heap.size, 0, none⟩) n n)) w') :
    wpList P ops Q (o :: rest) a w := by
  obtain ⟨i, hi, hz0, hz1, hz2⟩ := info_parts hinfo
  refine wpList_make_full w hg l c t hop w.heap.size e i z 4 h1 hi hz0 hz1 kl kc L C n hl hc hL hC (by rw [hz2]; omega) (by unfold maxLen; omega) (Nat.le_refl _) ?_
  intro w' hown hgr
  obtain ⟨_, h⟩ := hown
  rcases h with ⟨h, _⟩ | ⟨g, cap, cur, h, _, hh, _, _, hsz, ht⟩
  · simp at h
  · simp only [Value.slice.injEq, Option.some.injEq, Addr.mk.injEq, and_true, true_and] at h
    obtain ⟨rfl, rfl⟩ := h
    exact hK w' cur hsz ⟨_, hh⟩ hgr
end Go.Proofs.Ytidnhafllbckcaa
