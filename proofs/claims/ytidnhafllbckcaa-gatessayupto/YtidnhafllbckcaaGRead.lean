/- How an expression that came in is read. -/
import Derived.Test.YtidnhafllbckcaaGBase
import Derived.Test.YtidnhafllbckcaaRows
import Derived.ProofKit
import Derived.OpenShut
import Derived.Lib.SmallJoins
import Derived.Deep.Slices
namespace Go.Proofs.Ytidnhafllbckcaa
open Go.ChangeShapes Go.WideShapes Go.ChangeAt Go.RowKit Go.Joins Go.Deep
set_option linter.unusedVariables false
set_option linter.unusedSimpArgs false

/-- How many nodes. -/
def szE : (n : Nat) → Ex n → Nat
  | 0, _ => 0
  | n + 1, t => 1 + (t.2.2.2.map (szE n)).sum

theorem list_choose {α : Type} {P : Nat → α → Prop} : ∀ n : Nat, (∀ i, i < n → ∃ x, P i x) → ∃ xs : List α, xs.length = n ∧ ∀ i (h : i < xs.length), P i xs[i] := by
  intro n
  induction n with
  | zero => intro _; exact ⟨[], rfl, fun i h => by simp at h⟩
  | succ n ih =>
    intro h
    obtain ⟨xs, h1, h2⟩ := ih (fun i hi => h i (by omega))
    obtain ⟨x, hx⟩ := h n (by omega)
    refine ⟨xs ++ [x], by simp [h1], fun i hi => ?_⟩
    by_cases hlt : i < xs.length
    · rw [List.getElem_append_left hlt]
      exact h2 i hlt
    · have : i = n := by simp at hi; omega
      subst this
      rw [List.getElem_append_right (by omega)]
      simpa [h1] using hx

theorem sum_bulk {H α : Type} (f : α → Nat) : ∀ (ls : List α) (ds : List (DataW H)), ls.length = ds.length → (∀ i (h : i < ls.length) (h2 : i < ds.length), f ls[i] ≤ Rows.uptoBulk ds[i]) → (ls.map f).sum ≤ Rows.uptoBulkAll ds
  | [], [], _, _ => by simp
  | p :: ps, d :: ds, h, hk => by
    have h1 := sum_bulk f ps ds (by simpa using h) (fun i hi h2 => hk (i + 1) (by simpa using hi) (by simpa using h2))
    have h2 : f p ≤ Rows.uptoBulk d := hk 0 (by simp) (by simp)
    simp only [List.map_cons, List.sum_cons, Rows.uptoBulkAll]
    omega
  | [], d :: ds, h, _ => by simp at h
  | p :: ps, [], h, _ => by simp at h

theorem cellsWay : Try.prog.cellsOf 24 = 4 := by kernel_rfl
theorem cellsInt : Try.prog.cellsOf 3 = 1 := by kernel_rfl
theorem cellsBool : Try.prog.cellsOf 4 = 1 := by kernel_rfl
theorem cellsWays : Try.prog.cellsOf 22 = 1 := by kernel_rfl

theorem len_four {α : Type} {l : List α} (h : l.length = 4) : ∃ a b c d, l = [a, b, c, d] := by
  match l, h with
  | [a, b, c, d], _ => exact ⟨a, b, c, d, rfl⟩

theorem way_read {H : Type} {enc : TypeId × Value → H} {W : World} {sp : Nat → Bool} {held : Bool} : ∀ (q fuel : Nat), fuel / 2 = q → ∀ (cs : List Value) (x : DataW H × List MemPlace), DataW.trod enc Try.prog W 0 sp held fuel 24 cs = some x →
    ∃ (t : Ex (q + 1)) (c0 c1 c2 c3 : Value), cs = [c0, c1, c2, c3] ∧ WayC W (q + 1) c0 c1 c2 c3 t ∧ szE (q + 1) t ≤ Rows.uptoBulk x.1 := by
  intro q
  induction q with
  | zero =>
    intro fuel hq cs x h
    obtain ⟨xs, n, rfl, hx, hl, hxl, hf⟩ := DataW.trod_struct Try.underlying24 h
    obtain rfl : n = 0 := by omega
    have h3 := hf 3 _ rfl
    have hz : DataW.trod enc Try.prog W 0 sp held 0 22 ((cs.drop 3).take (Try.prog.cellsOf 22)) = none := by simp [DataW.trod]
    have h4 := hz.symm.trans h3
    have h5 : 3 < xs.length := by rw [hxl]; decide
    simp [h5] at h4
  | succ q ih =>
    intro fuel hq cs x h
    obtain ⟨xs, n, rfl, hx, hl, hxl, hf⟩ := DataW.trod_struct Try.underlying24 h
    rw [cellsWay] at hl
    obtain ⟨c0, c1, c2, c3, rfl⟩ := len_four hl
    obtain ⟨y0, y1, y2, y3, rfl⟩ := len_four (show xs.length = 4 from hxl)
    have h0 : DataW.trod enc Try.prog W 0 sp held n 3 [c0] = some y0 := by
      have this : DataW.trod enc Try.prog W 0 sp held n 3 ((([c0, c1, c2, c3] : List Value).drop 0).take (Try.prog.cellsOf 3)) = some y0 := hf 0 _ rfl
      rw [cellsInt] at this
      exact this
    have h1 : DataW.trod enc Try.prog W 0 sp held n 3 [c1] = some y1 := by
      have this : DataW.trod enc Try.prog W 0 sp held n 3 ((([c0, c1, c2, c3] : List Value).drop 1).take (Try.prog.cellsOf 3)) = some y1 := hf 1 _ rfl
      rw [cellsInt] at this
      exact this
    have h2 : DataW.trod enc Try.prog W 0 sp held n 4 [c2] = some y2 := by
      have this : DataW.trod enc Try.prog W 0 sp held n 4 ((([c0, c1, c2, c3] : List Value).drop 2).take (Try.prog.cellsOf 4)) = some y2 := hf 2 _ rfl
      rw [cellsBool] at this
      exact this
    have h3 : DataW.trod enc Try.prog W 0 sp held n 22 [c3] = some y3 := by
      have this : DataW.trod enc Try.prog W 0 sp held n 22 ((([c0, c1, c2, c3] : List Value).drop 3).take (Try.prog.cellsOf 22)) = some y3 := hf 3 _ rfl
      rw [cellsWays] at this
      exact this
    obtain ⟨z0, e0, r0, _⟩ := DataW.trod_int Try.underlying3 h0
    obtain ⟨z1, e1, r1, _⟩ := DataW.trod_int Try.underlying3 h1
    obtain ⟨z2, e2, r2⟩ := DataW.trod_bool Try.underlying4 h2
    obtain rfl : c0 = .int .i64 z0 := by simpa using e0
    obtain rfl : c1 = .int .i64 z1 := by simpa using e1
    obtain rfl : c2 = .bool z2 := by simpa using e2
    have hb : Rows.uptoBulk x.1 = 4 + Rows.uptoBulk y3.1 := by
      rw [hx, r0, r1, r2]
      simp only [List.map_cons, List.map_nil, Rows.uptoBulk, Rows.uptoBulkAll]
      omega
    rcases DataW.trod_slice Try.underlying22 h3 with ⟨e3, r3⟩ | ⟨a, len, cap, elems, rest, m, rfl, e3, r3, _, hlc, hcm, hel, hget, _⟩
    · obtain rfl : c3 = .slice none 0 0 := by simpa using e3
      refine ⟨((z0, z1, z2, []) : Int × Int × Bool × List (Ex (q + 1))), _, _, _, _, rfl, ⟨rfl, rfl, rfl, none, 0, rfl, Nat.le_refl _, Nat.zero_le _, fun j hj => absurd hj (Nat.not_lt_zero _)⟩, ?_⟩
      rw [hb]
      show 1 + 0 ≤ _
      omega
    · obtain rfl : c3 = .slice (some a) len cap := by simpa using e3
      have hm : m / 2 = q := by omega
      obtain ⟨b, off, spot⟩ := a
      have hspot : 0 < len → spot = none := fun h0 => by
        have hg := hget 0 h0
        rw [List.getElem?_eq_getElem (show 0 < elems.length by omega), Option.bind_eq_some_iff] at hg
        obtain ⟨cs', hc, ht⟩ := hg
        rw [cellsWay] at hc
        obtain ⟨_, hlen, hcell⟩ := World.cells?_some hc
        obtain ⟨t, d0, d1, d2, d3, rfl, hw, hsz⟩ := ih m hm cs' _ ht
        have k0 := hcell 0 (by omega)
        have := World.cell?_spot (v := d0) (by simpa using k0)
        simpa [Addr.add] using this
      have key : ∀ i, i < len → ∃ t : Ex (q + 1), (b < W.heap.size ∧ spot = none ∧ ∃ d0 d1 d2 d3, W.cell? ⟨b, off + i * 4, none⟩ = some d0 ∧ W.cell? ⟨b, off + i * 4 + 1, none⟩ = some d1 ∧ W.cell? ⟨b, off + i * 4 + 2, none⟩ = some d2 ∧ W.cell? ⟨b, off + i * 4 + 3, none⟩ = some d3 ∧ WayC W (q + 1) d0 d1 d2 d3 t) ∧ ∀ h2 : i < elems.length, szE (q + 1) t ≤ Rows.uptoBulk (elems[i]).1 := by
        intro i hi
        have hg := hget i hi
        have hie : i < elems.length := by omega
        rw [List.getElem?_eq_getElem hie, Option.bind_eq_some_iff] at hg
        obtain ⟨cs', hc, ht⟩ := hg
        rw [cellsWay] at hc
        obtain ⟨_, hlen, hcell⟩ := World.cells?_some hc
        obtain ⟨t, d0, d1, d2, d3, rfl, hw, hsz⟩ := ih m hm cs' _ ht
        have k0 := hcell 0 (by omega)
        have k1 := hcell 1 (by omega)
        have k2 := hcell 2 (by omega)
        have k3 := hcell 3 (by omega)
        have hsn := hspot (by omega)
        subst hsn
        have ad : ∀ j, ((⟨b, off, none⟩ : Addr).add (i * 4)).add j = ⟨b, off + i * 4 + j, none⟩ := fun j => by
          unfold Addr.add
          by_cases h : i * 4 = 0 <;> by_cases h' : j = 0 <;> simp [h, h']
        rw [ad] at k0 k1 k2 k3
        exact ⟨t, ⟨World.block_lt_of_cell? W _ k0, rfl, d0, d1, d2, d3, k0, k1, k2, k3, hw⟩, fun _ => hsz⟩
      obtain ⟨ts, hts, hP⟩ := list_choose len key
      refine ⟨((z0, z1, z2, ts) : Int × Int × Bool × List (Ex (q + 1))), _, _, _, _, rfl, ⟨rfl, rfl, rfl, some ⟨b, off, spot⟩, cap, by rw [← hts], by show ts.length ≤ cap; omega, hcm, fun j hj => ?_⟩, ?_⟩
      · have hj2 : j < ts.length := hj
        obtain ⟨⟨hbl, hsp, d0, d1, d2, d3, k⟩, _⟩ := hP j hj2
        subst hsp
        exact ⟨b, off, rfl, hbl, d0, d1, d2, d3, k⟩
      · have hs : (ts.map (szE (q + 1))).sum ≤ Rows.uptoBulkAll (elems.map (·.1)) := sum_bulk (szE (q + 1)) ts (elems.map (·.1)) (by simp [hts, hel]) (fun i hi h2 => by
          have := (hP i hi).2 (by simpa using h2)
          simpa using this)
        show 1 + (ts.map (szE (q + 1))).sum ≤ _
        rw [hb, r3]
        simp only [Rows.uptoBulk]
        omega

theorem ints_read {H : Type} {enc : TypeId × Value → H} {W : World} {m : Nat} {c1 : Value} {y1 : DataW H × List MemPlace} (hy1 : DataW.trod enc Try.prog W 0 (fun _ => true) true m 25 [c1] = some y1) :
    ∃ ls, IntR W c1 ls := by
  rcases open_slice Try.underlying25 hy1 with ⟨hcs, _⟩ | ⟨a, len, cap, mm, nn, D, Pl, hcs, hb, hl, hm, hmm, hx, hel⟩
  · obtain rfl : c1 = .slice none 0 0 := by simpa using hcs
    exact ⟨[], none, 0, rfl, by simp, Nat.zero_le _, fun i h => by simp at h⟩
  · obtain rfl : c1 = .slice (some a) len cap := by simpa using hcs
    have hlm : len ≤ mm := by rw [hmm]; split <;> omega
    obtain ⟨b, off, spot⟩ := a
    have key : ∀ i, i < len → ∃ z : Int, W.cell? ((⟨b, off, spot⟩ : Addr).add (i * 1)) = some (.int .i64 z) := by
      intro i hi
      obtain ⟨cs', h1, h2⟩ := hel i (by omega)
      rw [cellsInt] at h1
      obtain ⟨_, hlen, hc⟩ := World.cells?_some h1
      obtain ⟨z, e5, _, _⟩ := DataW.trod_int Try.underlying3 h2
      have hc0 := hc 0 (by omega)
      have e7 : cs'[0]? = some (.int .i64 z) := by
        have := congrArg (·[0]?) e5
        simpa using this
      refine ⟨z, ?_⟩
      have e8 : ((⟨b, off, spot⟩ : Addr).add (i * 1)).add 0 = (⟨b, off, spot⟩ : Addr).add (i * 1) := by unfold Addr.add; simp
      rw [← e8]
      exact hc0.trans e7
    obtain ⟨ls, hls, hP⟩ := list_choose len key
    refine ⟨ls, some ⟨b, off, spot⟩, cap, by rw [hls], by omega, hm, fun i hi => ?_⟩
    have hspot : spot = none := by
      have z0 := hP 0 (by omega)
      have := World.cell?_spot z0
      simpa [Addr.add] using this
    subst hspot
    have q0 := hP i hi
    have ad : (⟨b, off, none⟩ : Addr).add (i * 1) = ⟨b, off + i, none⟩ := by
      unfold Addr.add
      by_cases h : i = 0 <;> simp [h]
    rw [ad] at q0
    exact ⟨b, off, rfl, World.block_lt_of_cell? W _ q0, q0⟩
end Go.Proofs.Ytidnhafllbckcaa
