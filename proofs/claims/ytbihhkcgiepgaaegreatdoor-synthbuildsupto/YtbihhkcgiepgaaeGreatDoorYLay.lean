/- synth: Build's function that lays a part. -/
import Derived.Test.YtbihhkcgiepgaaeGreatDoorMYg
import Derived.Test.YtbihhkcgiepgaaeGreatDoorMPa
import Derived.Deep.RegionHeld3
import Derived.Deep.RegionLaw
namespace Go.Proofs.YtbihhkcgiepgaaeGreatDoor
open Go.RowKit
set_option linter.unusedVariables false
set_option linter.unusedSimpArgs false

/-- A new part. -/
def newP (kind a b : Int) (q : Rat) : Prt := ⟨kind, a, b, 0, 0, ⟨(qtext q).toArray⟩⟩

/-- What it leaves. -/
def LayE (w : World) (gn gh gv : Nat) (nodes here : Int) (q : Rat) (v : Value) (ps : List Prt) (y : Prt) (base L : Nat) (w' : World) : Prop :=
  ∃ ao cap, w'.heap[gn]? = some (.cells #[.int .i64 nodes, .slice ao (ps.length + 1) cap] 61 (0, 0)) ∧ w'.heap[gh]? = some (.cells #[.int .i64 here] 3 (0, 0)) ∧ OwnP w' base (.slice ao (ps.length + 1) cap) (ps ++ [y]) ∧ FRow w' gv 1 (fun _ => q) L ∧
    (∀ w0 : World, w0.grownBy w none → w0.heap.size ≤ gn → w0.heap.size ≤ base → w0.grownBy w' none) ∧ w.heap.size ≤ w'.heap.size ∧ ∀ k, k < w.heap.size → k ≠ gn → v.ownBlock ≠ some k → w'.heap[k]? = w.heap[k]?

theorem lay_end {w w1 w2 : World} {gn gh gv base L : Nat} {nodes here : Int} {q : Rat} {v : Value} {ps : List Prt} {y : Prt} {ao : Option Addr} {cap : Nat} (hn : w.heap[gn]? = some (.cells #[.int .i64 nodes, v] 61 (0, 0))) (hv : ∀ x : Nat, v ≠ .int .u32 (x : Nat)) (hh : w.heap[gh]? = some (.cells #[.int .i64 here] 3 (0, 0))) (hr : FRow w gv 1 (fun _ => q) L) (ho : OwnP w base v ps)
    (d1 : gn ≠ gh) (d2 : gn ≠ gv) (d3 : gn < base) (d4 : gh < base) (d5 : ∀ k, v.ownBlock = some k → k ≠ gv)
    (g1 : w.grownBy w1 none) (g2 : w1.grownBy w2 v.ownBlock) (k2 : WKept w1 w2) (ho2 : OwnP w2 base (.slice ao (ps.length + 1) cap) (ps ++ [y])) : LayE w gn gh gv nodes here q v ps y base L (w2.setCell ⟨gn, 1, none⟩ (.slice ao (ps.length + 1) cap)) := by
  have ln := (Array.getElem?_eq_some_iff.1 hn).1
  have lh := (Array.getElem?_eq_some_iff.1 hh).1
  have lv := hr.lt
  have n2 : w2.heap[gn]? = some (.cells #[.int .i64 nodes, v] 61 (0, 0)) := by
    rw [g2.block gn (Nat.lt_of_lt_of_le ln g1.size) (fun e => by have := (ho.fresh gn e.symm).1; omega), g1.block gn ln (by simp)]
    exact hn
  have h2 : w2.heap[gh]? = some (.cells #[.int .i64 here] 3 (0, 0)) := by
    rw [g2.block gh (Nat.lt_of_lt_of_le lh g1.size) (fun e => by have := (ho.fresh gh e.symm).1; omega), g1.block gh lh (by simp)]
    exact hh
  have g3 : w2.grownBy (w2.setCell ⟨gn, 1, none⟩ (.slice ao (ps.length + 1) cap)) (some gn) := ⟨rfl, rfl, rfl, by simp, fun k _ hr => heap_setCell_other _ _ k _ (fun e => hr (by rw [e]))⟩
  have k3 : WKept w2 (w2.setCell ⟨gn, 1, none⟩ (.slice ao (ps.length + 1) cap)) := WKept.set n2 (fun x e => by simp at e; exact hv x e) _
  refine ⟨ao, cap, ?_, ?_, ho2.keep g3 (fun k ek e => ?_), ?_, fun w0 h0 b1 b2 => ?_, Nat.le_trans g1.size (Nat.le_trans g2.size g3.size), fun k hk e1 e2 => ?_⟩
  · rw [heap_setCell_same w2 gn 1 _ _ _ n2]
    rfl
  · rw [heap_setCell_other _ _ gh _ (fun e => d1 e.symm)]
    exact h2
  · have := (ho2.fresh k ek).1
    simp only [Option.some.injEq] at e
    omega
  · refine (FRow.keep (FRow.keep (hr.keep0 g1) g2 k2 (fun e => d5 gv e.symm rfl)) g3 k3 (fun e => ?_))
    simp only [Option.some.injEq] at e
    exact d2 e.symm
  · have a1 := gr_none h0 g1
    have a2 : w0.grownBy w2 none := gr_trans (r := none) a1 g2 (fun _ _ e => e) (fun b hb e => by have := (ho.fresh b e.symm).1; omega)
    exact gr_own2 a2 g3 (fun b e => by cases e; exact b1)
  · rw [heap_setCell_other _ _ k _ e1, g2.block k (Nat.lt_of_lt_of_le hk g1.size) (fun e => e2 e.symm), g1.block k hk (by simp)]

set_option maxHeartbeats 8000000 in
set_option maxRecDepth 10000 in
theorem lay_at (gn gh gv : Nat) (kind here dest nodes : Int) (q : Rat) (v : Value) (ps : List Prt) (base L : Nat) (w : World) (hn : w.heap[gn]? = some (.cells #[.int .i64 nodes, v] 61 (0, 0))) (hh : w.heap[gh]? = some (.cells #[.int .i64 here] 3 (0, 0))) (hr : FRow w gv 1 (fun _ => q) L) (ho : OwnP w base v ps)
    (d1 : gn ≠ gh) (d2 : gn ≠ gv) (d3 : gn < base) (d4 : gh < base) (d5 : ∀ k, v.ownBlock = some k → k ≠ gv) (hl : ps.length ≤ 1000) (hb : base ≤ w.heap.size) (hL : L ≤ 100000000000) (ht : Tab10 w) :
    Calls Tryz.prog 89 #[.int .i64 kind, .int .i64 dest, .pointer (some ⟨gn, 0, none⟩), .pointer (some ⟨gh, 0, none⟩), .pointer (some ⟨gv, 0, none⟩)] w fun e w' => e = .returned (.tuple #[]) ∧ LayE w gn gh gv nodes here q v ps (newP kind here dest q) base L w' := by
  obtain ⟨vo, vc, rfl, hvc, hvm⟩ := ho.shape
  have HN := hide hn
  have HH := hide hh
  have HR := hide hr
  have HO := hide ho
  have HD5 := hide d5
  have HT := hide ht
  have ln := (Array.getElem?_eq_some_iff.1 hn).1
  have lh := (Array.getElem?_eq_some_iff.1 hh).1
  have lv := hr.lt
  unfold maxLen at hvm
  obtain ⟨uo, ul, uc, do_, dl, dc, c0, c1, c2, c3, _⟩ := hr.at 0 (by omega)
  simp only [Nat.zero_mul, Nat.zero_add] at c0 c1 c2
  have C3 := hide c3
  have CX : Hid (∀ wx, w.grownBy wx none → (wx.cell? ⟨gn, 0, none⟩ = some (.int .i64 nodes) ∧ wx.cell? ⟨gn, 1, none⟩ = some (.slice vo ps.length vc)) ∧ wx.cell? ⟨gh, 0, none⟩ = some (.int .i64 here) ∧ (wx.cell? ⟨gv, 0, none⟩ = some (.bool (rB q)) ∧ wx.cell? ⟨gv, 1, none⟩ = some (.slice uo ul uc) ∧ wx.cell? ⟨gv, 2, none⟩ = some (.slice do_ dl dc)) ∧ ∀ i, wx.frozen? ⟨gn, i, none⟩ = false) := by
    intro wx hg
    have e1 : wx.heap[gn]? = some (.cells #[.int .i64 nodes, .slice vo ps.length vc] 61 (0, 0)) := by rw [hg.block gn ln (by simp)]; exact HN.out
    have e2 : wx.heap[gh]? = some (.cells #[.int .i64 here] 3 (0, 0)) := by rw [hg.block gh lh (by simp)]; exact HH.out
    exact ⟨⟨by simp [World.cell?, e1], by simp [World.cell?, e1]⟩, by simp [World.cell?, e2], ⟨hg.cell c0 (by simp), hg.cell c1 (by simp), hg.cell c2 (by simp)⟩, fun i => by simp [World.frozen?, e1]⟩
  clear c0 c1 c2 c3 hn hh hr ho d5 ht
  have GG : w.grownBy w none := gr_refl _ _
  obtain ⟨⟨s0, s1⟩, s2, ⟨s3, s4, s5⟩, _⟩ := CX.out w GG
  go_enter Tryz.func89, Tryz.ntmps89
  have CY : Hid (∀ w1 w2, w.grownBy w1 none → w1.grownBy w2 (Value.slice vo ps.length vc).ownBlock → (w2.cell? ⟨gn, 0, none⟩ = some (.int .i64 nodes) ∧ w2.cell? ⟨gn, 1, none⟩ = some (.slice vo ps.length vc)) ∧ w2.cell? ⟨gh, 0, none⟩ = some (.int .i64 here) ∧ (w2.cell? ⟨gv, 0, none⟩ = some (.bool (rB q)) ∧ w2.cell? ⟨gv, 1, none⟩ = some (.slice uo ul uc) ∧ w2.cell? ⟨gv, 2, none⟩ = some (.slice do_ dl dc)) ∧ w2.frozen? ⟨gn, 1, none⟩ = false) := by
    intro w1 w2 h1 h2
    obtain ⟨⟨x0, x1⟩, x2, ⟨x3, x4, x5⟩, _⟩ := CX.out w1 h1
    have n1 : ∀ j, some (⟨gn, j, none⟩ : Addr).block ≠ (Value.slice vo ps.length vc).ownBlock := fun j e => by have := (HO.out.fresh gn e.symm).1; omega
    have n2 : ∀ j, some (⟨gh, j, none⟩ : Addr).block ≠ (Value.slice vo ps.length vc).ownBlock := fun j e => by have := (HO.out.fresh gh e.symm).1; omega
    have n3 : ∀ j, some (⟨gv, j, none⟩ : Addr).block ≠ (Value.slice vo ps.length vc).ownBlock := fun j e => HD5.out gv e.symm rfl
    have e1 : w2.heap[gn]? = some (.cells #[.int .i64 nodes, .slice vo ps.length vc] 61 (0, 0)) := by
      rw [h2.block gn (Nat.lt_of_lt_of_le ln h1.size) (n1 0), h1.block gn ln (by simp)]
      exact HN.out
    exact ⟨⟨h2.cell x0 (n1 0), h2.cell x1 (n1 1)⟩, h2.cell x2 (n2 0), ⟨h2.cell x3 (n3 0), h2.cell x4 (n3 1), h2.cell x5 (n3 2)⟩, by simp [World.frozen?, e1]⟩
  have d2' : gv ≠ gn := fun e => d2 e.symm
  have d1' : gh ≠ gn := fun e => d1 e.symm
  go_region_law
    (first
      | (go_simp; go_at_call 59; refine (fQ_at _ q L _ (C3.out.keep0 (by first | exact gr_none GG (gr_d _) | exact gr_none GG gr_d1 | exact GG)) hL (HT.out.keep0 (by first | exact gr_none GG (gr_d _) | exact gr_none GG gr_d1 | exact GG))).mono ?_; rintro e wa ⟨rfl, ga⟩; have GG : w.grownBy wa none := gr_none (by first | exact gr_none GG (gr_d _) | exact gr_none GG gr_d1 | exact GG) ga; obtain ⟨⟨a0, a1⟩, a2, ⟨a3, a4, a5⟩, _⟩ := CX.out wa GG; have hla := GG.size; have z1 : ∀ o, (wa.alloc o).cell? ⟨gn, 1, none⟩ = some (.slice vo ps.length vc) := fun o => (CX.out _ (gr_alloc GG o)).1.2; have z2 : ∀ o, (wa.alloc o).cell? ⟨gh, 0, none⟩ = some (.int .i64 here) := fun o => (CX.out _ (gr_alloc GG o)).2.1; clear ga; go_wp2_with fail)
      | (refine step_append_prt _ rfl (.tmp 8) (.tmp 15) 59 rfl base Tryz.underlying59 Tryz.infoPart (.slice vo ps.length vc) ps ?_ ?_ wa.heap.size (newP kind here dest q) ?_ ?_ (by omega) ?_ ?_; (focus simp [Act.eval, Act.put]); (focus exact HO.out.keep0 (gr_alloc GG _)); (focus simp [Act.eval, Act.put]); (focus exact heap_alloc_new wa _); (focus simp; omega); intro ao cap w5 b1 b2 b3; obtain ⟨⟨x0, x1⟩, x2, ⟨x3, x4, x5⟩, xf⟩ := CY.out _ _ (gr_alloc GG _) b2))
  all_goals
    have HB1 := hide b1
    have HB2 := hide b2
    have HB3 := hide b3
    have HGG := hide GG
    clear b1 b2 b3 GG z1 z2
    go_wp2
    go_end0
    exact ⟨rfl, lay_end HN.out (fun x e => by cases e) HH.out HR.out HO.out d1 d2 d3 d4 HD5.out (gr_alloc HGG.out _) HB2.out HB3.out HB1.out⟩
end Go.Proofs.YtbihhkcgiepgaaeGreatDoor
