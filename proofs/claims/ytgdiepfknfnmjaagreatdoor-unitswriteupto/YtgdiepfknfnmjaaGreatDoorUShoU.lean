/- The reference: ShowQuantity of a unit that is none; its table of units, for longer texts. -/
import Derived.Test.YtgdiepfknfnmjaaGreatDoorUTab
import Derived.Test.YtgdiepfknfnmjaaGreatDoorMU3
namespace Go.Proofs.YtgdiepfknfnmjaaGreatDoor
open Go.ChangeShapes Go.WideShapes Go.ChangeAt Go.WideMaps Go.WideElems Go.RowKit Go.Joins Go.Deep
set_option linter.unusedVariables false
set_option linter.unusedSimpArgs false

/-- The reference's table of units, for texts up to a greater length. -/
def UMB (w : World) : Prop := ∃ bm, w.cell? ⟨1, 0, none⟩ = some (.map (some bm)) ∧ bm < w.heap.size ∧ ∀ wx : World, wx.heap[bm]? = w.heap[bm]? → ∀ s : ByteArray, s.size ≤ 100000000 → (Instr.lookup 67 (.map (some bm)) (.string s) true).run Tryz.prog wx = .ok (unitV s.data.toList) wx

set_option maxRecDepth 100000 in
theorem umb_of {W : World} (h : Lib.VarReads Tryz.prog W "voltaic/voltaicref.units" Rows.laid_voltaic_voltaicref_units) : UMB W := by
  obtain ⟨g, t, cs, fuel, p, hg, hty, hvar, hd⟩ := h
  obtain rfl := Option.some.inj (gUni.symm.trans hg)
  obtain rfl := Option.some.inj (gUniType.symm.trans hty)
  rcases open_map Tryz.underlying67 hd with ⟨_, hx⟩ | ⟨bm, es, clock, m, rfl, hcs, hb, _, F, hx⟩
  · simp [Rows.laid_voltaic_voltaicref_units] at hx
  simp only [Prod.mk.injEq] at hx
  have hcell : W.cell? ⟨1, 0, none⟩ = some (.map (some bm)) := by
    have := World.var?_cell hg hvar 0
    rw [Array.eq_one_of_toList hcs] at this
    simpa using this
  refine ⟨bm, hcell, (Array.getElem?_eq_some_iff.1 hb).1, fun wx hwx s hs => ?_⟩
  have hb2 : wx.heap[bm]? = some (.map es clock) := hwx.trans hb
  have zero : (zeroValue 9).run Tryz.prog wx = .ok (.string ⟨#[]⟩) wx := by kernel_rfl
  rcases fit_lookup_ok (w := wx) keyS Tryz.underlying67 zero hb2 F (keyOf_string_mk (s := s) Tryz.underlying9 (by unfold maxLen; omega)) with ⟨hrun, hat⟩ | ⟨v, y, hrun, hRv, hat, _⟩
  · have h := hat .nil
    rw [← hx.1, units_find] at h
    rw [hrun, unitV]
    cases hu : unitR s.data.toList with
    | none => rfl
    | some u => rw [hu] at h; cases h
  · obtain ⟨u, rfl, hz⟩ := elemAt_str hRv
    have h := hat .nil
    rw [← hx.1, units_find, hz] at h
    cases hu : unitR s.data.toList with
    | none => rw [hu] at h; cases h
    | some u' =>
      rw [hu] at h
      simp only [DataW.lit.injEq, Lit.string.injEq] at h
      rw [hrun, unitV, hu, h]


theorem UMB.keep0 {w w' : World} (h : UMB w) (hg : w.grownBy w' none) : UMB w' := by
  obtain ⟨bm, h1, h2, h3⟩ := h
  exact ⟨bm, hg.cell h1 (by simp), Nat.lt_of_lt_of_le h2 hg.size, fun wx hx => h3 wx (hx.trans (hg.block bm h2 (by simp)))⟩

set_option maxHeartbeats 2000000 in
theorem show_bad (s u : ByteArray) (w : World) (hus : u.size ≤ 1048576) (hu : unitR u.data.toList ≠ some u.data.toList) (hum : UMB w) :
    Calls Tryz.prog 9 #[.string s, .string u] w fun e w' => e = .returned (priV ([], 3)) ∧ w.grownBy w' none := by
  obtain ⟨bm2, u1, u2, u3⟩ := hum
  have hlk := u3 w rfl u (by omega)
  rw [unitV] at hlk
  cases hv : unitR u.data.toList with
  | none =>
    rw [hv] at hlk
    simp only at hlk
    clear u2 u3 hu hv
    go_enter Tryz.func9, Tryz.ntmps9
    go_wp2
    refine bodyPost_ret (v := priV ([], 3)) (by simp [results, Tryz.results9, go_sem, priV]) rfl ?_
    exact ⟨rfl, gr_refl _ _⟩
  | some v =>
    rw [hv] at hlk
    simp only at hlk
    obtain ⟨k1, k2⟩ := unit_odd hv (fun e => hu (by rw [hv, e]))
    obtain rfl : u = ⟨#[226, 132, 166]⟩ := bytes_eq k1
    subst k2
    clear u2 u3 hu hv k1
    go_enter Tryz.func9, Tryz.ntmps9
    go_wp2
    refine bodyPost_ret (v := priV ([], 3)) (by simp [results, Tryz.results9, go_sem, priV]) rfl ?_
    exact ⟨rfl, gr_refl _ _⟩
end Go.Proofs.YtgdiepfknfnmjaaGreatDoor
