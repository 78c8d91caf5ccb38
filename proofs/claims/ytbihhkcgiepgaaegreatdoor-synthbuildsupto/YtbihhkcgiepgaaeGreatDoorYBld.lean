/- synth: Build. -/
import Derived.Test.YtbihhkcgiepgaaeGreatDoorYLay
import Derived.Test.YtbihhkcgiepgaaeGreatDoorMTa
import Derived.Test.YtbihhkcgiepgaaeGreatDoorMYc
namespace Go.Proofs.YtbihhkcgiepgaaeGreatDoor
open Go.RowKit
set_option linter.unusedVariables false
set_option linter.unusedSimpArgs false

/-- The net behind i values: nodes, where one is, parts. -/
def bldS (kind : Int) (R : Nat → Rat) (n : Nat) : Nat → Nat × Nat × List Prt
  | 0 => (2, 1, [])
  | i + 1 => if i % 2 = 1 then ((bldS kind R n i).1, (bldS kind R n i).2.1, (bldS kind R n i).2.2 ++ [newP 3 (bldS kind R n i).2.1 0 (R i)])
    else if i + 1 = n then ((bldS kind R n i).1, (bldS kind R n i).2.1, (bldS kind R n i).2.2 ++ [newP kind (bldS kind R n i).2.1 0 (R i)])
    else if R i = 0 then bldS kind R n i
    else ((bldS kind R n i).1 + 1, (bldS kind R n i).1, (bldS kind R n i).2.2 ++ [newP kind (bldS kind R n i).2.1 (bldS kind R n i).1 (R i)])

/-- A value that may not be. -/
def badI (R : Nat → Rat) (n i : Nat) : Prop := (R i).num < 0 ∨ R i = 0 ∧ (0 < i ∨ n = 1)

theorem bldS_len (kind : Int) (R : Nat → Rat) (n : Nat) : ∀ i, (bldS kind R n i).2.2.length ≤ i ∧ (bldS kind R n i).1 ≤ i + 2 ∧ (bldS kind R n i).2.1 ≤ i + 2
  | 0 => by simp [bldS]
  | i + 1 => by
    obtain ⟨h1, h2, h3⟩ := bldS_len kind R n i
    rw [bldS]
    split
    · simp; omega
    · split
      · simp; omega
      · split
        · omega
        · simp; omega

theorem isAcross_at (i : Nat) (w : World) (hi : i ≤ 100000) : Calls Tryz.prog 76 #[.int .i64 ((i : Nat) : Int)] w fun e w' => e = .returned (.bool (decide (i % 2 = 1))) ∧ w' = w := by
  by_cases h : i % 2 = 1
  · have hb1 : ((((i : Nat) : Int).tmod 2) == 1) = true := by rw [Int.tmod_eq_emod_of_nonneg (by omega)]; exact beq_iff_eq.2 (by omega)
    have hb2 : ((((i : Nat) : Int) % 2) == 1) = true := beq_iff_eq.2 (by omega)
    rw [decide_eq_true h]
    clear h
    go_enter Tryz.func76, Tryz.ntmps76
    go_wp2
    go_ret
    exact ⟨by first | rfl | simp [hb1, hb2], rfl⟩
  · have hb1 : ((((i : Nat) : Int).tmod 2) == 1) = false := by rw [Int.tmod_eq_emod_of_nonneg (by omega)]; exact beq_eq_false_iff_ne.2 (by omega)
    have hb2 : ((((i : Nat) : Int) % 2) == 1) = false := beq_eq_false_iff_ne.2 (by omega)
    rw [decide_eq_false h]
    clear h
    go_enter Tryz.func76, Tryz.ntmps76
    go_wp2
    go_ret
    exact ⟨by first | rfl | simp [hb1, hb2], rfl⟩

/-- A kind that may lie along. -/
def along1 (k : Int) : Bool := k == 2 || k == 1

theorem mayLie_at (k : Int) (w : World) : Calls Tryz.prog 73 #[.int .i64 k] w fun e w' => e = .returned (.bool (along1 k)) ∧ w' = w := by
  by_cases h2 : k = 2
  · subst h2
    go_enter Tryz.func73, Tryz.ntmps73
    go_wp2
    go_ret
    exact ⟨rfl, rfl⟩
  · have hb : (k == 2) = false := beq_eq_false_iff_ne.2 h2
    by_cases h1 : k = 1
    · subst h1
      go_enter Tryz.func73, Tryz.ntmps73
      go_wp2
      go_ret
      exact ⟨rfl, rfl⟩
    · have hb1 : (k == 1) = false := beq_eq_false_iff_ne.2 h1
      have e : along1 k = false := by unfold along1; rw [hb, hb1]; rfl
      rw [e]
      go_enter Tryz.func73, Tryz.ntmps73
      go_wp2
      go_ret
      exact ⟨by first | rfl | simp [hb, hb1], rfl⟩

def NZ (w : World) (r : Nat) : Prop := w.heap[r]? = some (.cells #[.int .i64 0, .slice none 0 0] 61 (0, 0))

/-- What Build answers. -/
def BldE (w : World) (kind : Int) (R : Nat → Rat) (n : Nat) (e : Ending) (w' : World) : Prop :=
  w.grownBy w' none ∧ ((along1 kind = false ∧ e = .returned (.tuple #[.agg #[.int .i64 0, .slice none 0 0], .int .i64 3])) ∨
    (along1 kind = true ∧ (n = 0 ∨ 12 < n) ∧ e = .returned (.tuple #[.agg #[.int .i64 0, .slice none 0 0], .int .i64 2])) ∨
    (along1 kind = true ∧ 0 < n ∧ n ≤ 12 ∧ (∃ i, i < n ∧ badI R n i) ∧ e = .returned (.tuple #[.agg #[.int .i64 0, .slice none 0 0], .int .i64 5])) ∨
    (along1 kind = true ∧ 0 < n ∧ n ≤ 12 ∧ (∀ i, i < n → ¬ badI R n i) ∧ ∃ ao c, e = .returned (.tuple #[.agg #[.int .i64 ((bldS kind R n n).1 : Nat), .slice ao (bldS kind R n n).2.2.length c], .int .i64 0]) ∧ OwnP w' w.heap.size (.slice ao (bldS kind R n n).2.2.length c) (bldS kind R n n).2.2))

def BldR (w : World) (kind : Int) (R : Nat → Rat) (n r gn gh base : Nat) (v : Value) (wr : World) : Prop :=
  ∃ i : Nat, i ≤ n ∧ v = .int .i64 i ∧ (∀ j, j < i → ¬ badI R n j) ∧ NZ wr r ∧ (∃ ao c, wr.heap[gn]? = some (.cells #[.int .i64 ((bldS kind R n i).1 : Nat), .slice ao (bldS kind R n i).2.2.length c] 61 (0, 0)) ∧ OwnP wr base (.slice ao (bldS kind R n i).2.2.length c) (bldS kind R n i).2.2) ∧ wr.heap[gh]? = some (.cells #[.int .i64 ((bldS kind R n i).2.1 : Nat)] 3 (0, 0)) ∧ w.grownBy wr none

theorem one_cell {w : World} {g : Nat} {t : TypeId} {x : Value} (hb : w.heap[g]? = some (.cells #[x] t (0, 0))) : w.cell? ⟨g, 0, none⟩ = some x ∧ ∀ i, w.frozen? ⟨g, i, none⟩ = false :=
  ⟨by simp [World.cell?, hb], fun i => by simp [World.frozen?, hb]⟩

theorem bld_lay {w w9 wy : World} {kind : Int} {R : Nat → Rat} {n i gr gn gh gv base L nd hr : Nat} {q : Rat} {v : Value} {ps : List Prt} {y : Prt} (h : LayE w9 gn gh gv (nd : Nat) (hr : Nat) q v ps y base L wy) (ho : OwnP w9 base v ps) (nz : NZ w9 gr) (hg : w.grownBy w9 none) (hb : base ≤ w9.heap.size) (q2 : gr ≠ gn) (q6 : gr < base) (q8 : w.heap.size ≤ gn) (q9 : w.heap.size ≤ base) (hi : i + 1 ≤ n) (nb : ∀ j, j < i + 1 → ¬ badI R n j) (eS : bldS kind R n (i + 1) = (nd, hr, ps ++ [y])) :
    BldR w kind R n gr gn gh base (.int .i64 ((i + 1 : Nat) : Int)) wy ∧ base ≤ wy.heap.size := by
  obtain ⟨ao, c, n1, n2, n3, _, n5, n6, n7⟩ := h
  have hlen : (ps ++ [y]).length = ps.length + 1 := by simp
  refine ⟨⟨i + 1, hi, rfl, nb, ?_, ⟨ao, c, by rw [eS]; simp only; rw [hlen]; exact n1, by rw [eS]; simp only; rw [hlen]; exact n3⟩, by rw [eS]; exact n2, n5 w hg q8 q9⟩, Nat.le_trans hb n6⟩
  show _ = _
  rw [n7 gr (by omega) q2 (fun e => by have := (ho.fresh gr e).1; omega)]
  exact nz

theorem bld_go {w w9 wy : World} {kind : Int} {R : Nat → Rat} {n i gr gn gh gv base L nd hr : Nat} {q : Rat} {v : Value} {ps : List Prt} {y : Prt} {z : Int} (h : LayE w9 gn gh gv (nd : Nat) (hr : Nat) q v ps y base L wy) (ho : OwnP w9 base v ps) (nz : NZ w9 gr) (hg : w.grownBy w9 none) (hb : base ≤ w9.heap.size) (q1 : gn ≠ gh) (q2 : gr ≠ gn) (q3 : gr ≠ gh) (q4 : gn < base) (q5 : gh < base) (q6 : gr < base) (q8 : w.heap.size ≤ gn) (q9 : w.heap.size ≤ base) (q11 : w.heap.size ≤ gh) (hi : i + 1 ≤ n) (nb : ∀ j, j < i + 1 → ¬ badI R n j) (eS : bldS kind R n (i + 1) = (nd + 1, nd, ps ++ [y])) (hz : z = ((nd + 1 : Nat) : Int)) :
    BldR w kind R n gr gn gh base (.int .i64 ((i + 1 : Nat) : Int)) ((wy.setCell ⟨gh, 0, none⟩ (.int .i64 (nd : Nat))).setCell ⟨gn, 0, none⟩ (.int .i64 z)) ∧ base ≤ ((wy.setCell ⟨gh, 0, none⟩ (.int .i64 (nd : Nat))).setCell ⟨gn, 0, none⟩ (.int .i64 z)).heap.size := by
  obtain ⟨ao, c, n1, n2, n3, _, n5, n6, n7⟩ := h
  have hlen : (ps ++ [y]).length = ps.length + 1 := by simp
  have g1 : wy.grownBy (wy.setCell ⟨gh, 0, none⟩ (.int .i64 (nd : Nat))) (some gh) := ⟨rfl, rfl, rfl, by simp, fun k _ hr => heap_setCell_other _ _ k _ (fun e => hr (by rw [e]))⟩
  have m1 := heap_setCell_same wy gh 0 _ _ (.int .i64 (nd : Nat)) n2
  have m2 : (wy.setCell ⟨gh, 0, none⟩ (.int .i64 (nd : Nat))).heap[gn]? = some (.cells #[.int .i64 (nd : Nat), .slice ao (ps.length + 1) c] 61 (0, 0)) := by
    rw [heap_setCell_other _ _ gn _ q1]
    exact n1
  have g2 : (wy.setCell ⟨gh, 0, none⟩ (.int .i64 (nd : Nat))).grownBy ((wy.setCell ⟨gh, 0, none⟩ (.int .i64 (nd : Nat))).setCell ⟨gn, 0, none⟩ (.int .i64 z)) (some gn) := ⟨rfl, rfl, rfl, by simp, fun k _ hr => heap_setCell_other _ _ k _ (fun e => hr (by rw [e]))⟩
  have m3 := heap_setCell_same _ gn 0 _ _ (.int .i64 z) m2
  have nne : ∀ k, (Value.slice ao (ps.length + 1) c).ownBlock = some k → some k ≠ some gh := fun k ek e => by have := (n3.fresh k ek).1; simp only [Option.some.injEq] at e; omega
  have nne2 : ∀ k, (Value.slice ao (ps.length + 1) c).ownBlock = some k → some k ≠ some gn := fun k ek e => by have := (n3.fresh k ek).1; simp only [Option.some.injEq] at e; omega
  refine ⟨⟨i + 1, hi, rfl, nb, ?_, ⟨ao, c, ?_, ?_⟩, ?_, ?_⟩, by simp; omega⟩
  · show _ = _
    rw [heap_setCell_other _ _ gr _ q2, heap_setCell_other _ _ gr _ q3, n7 gr (by omega) q2 (fun e => by have := (ho.fresh gr e).1; omega)]
    exact nz
  · rw [eS, m3, hz]
    simp only
    rw [hlen]
    rfl
  · rw [eS]
    simp only
    rw [hlen]
    exact (n3.keep g1 nne).keep g2 nne2
  · rw [eS, heap_setCell_other _ _ gh _ (fun e => q1 e.symm), m1]
    rfl
  · exact gr_own2 (gr_own2 (n5 w hg q8 q9) g1 (fun b e => by cases e; exact q11)) g2 (fun b e => by cases e; exact q8)

theorem ofText_at (s : ByteArray) (q : Rat) (L : Nat) (w : World) (h1 : s.size ≤ 600000000) (h2 : s.size + 1 ≤ L) (hq : Hid (q = ofR s.data.toList)) (hml : MLen w) : Calls Tryz.prog 88 #[.string s] w fun e w' => FQE w q L e w' := by
  obtain ⟨m, hm⟩ := hml
  refine (qOf_at s m w h1 hm).mono ?_
  rintro e w' ⟨v, rfl, h3, h4⟩
  rw [hq.out]
  exact ⟨v, rfl, h3.mono h2, h4⟩

set_option maxHeartbeats 8000000 in
set_option maxRecDepth 10000 in
theorem build_at (v : Value) (ls : List ByteArray) (kind : Int) (L : Nat) (w : World) (hv : RowG sv w v ls) (hs : ls.length ≤ 12 → ∀ i (h : i < ls.length), (ls[i]).size ≤ 600000000 ∧ (ls[i]).size + 1 ≤ L) (hL : L ≤ 100000000000) (hl : ls.length ≤ 100000000) (hml : MLen w) (ht : Tab10 w) :
    Calls Tryz.prog 30 #[v, .int .i64 kind] w fun e w' => BldE w kind (polyQ ls) ls.length e w' := by
  have HV := hide hv
  have HS := hide hs
  have HM := hide hml
  have HT := hide ht
  obtain ⟨ao, cap, rfl, h1, h2, h3⟩ := hv
  unfold maxLen at h2
  have H3 := hide h3
  obtain ⟨n, hn⟩ : ∃ n, n = ls.length := ⟨_, rfl⟩
  have HN := hide hn
  rw [← hn] at h1 hl HV ⊢
  clear hs hml ht h3 hn
  obtain ⟨W, hW⟩ : ∃ W, W = w.alloc (Obj.cells #[.int .i64 0, .slice none 0 0] 61) := ⟨_, rfl⟩
  have GW : Hid (w.grownBy W none) := by rw [hW]; exact gr_alloc (gr_refl _ _) _
  have RES : Hid (NZ W w.heap.size) := by
    show _ = _
    rw [hW]
    exact heap_alloc_new _ _
  have hWs : W.heap.size = w.heap.size + 1 := by rw [hW]; simp
  obtain ⟨r0, r1, rf⟩ := two_cells RES.out
  have rf0 := rf 0
  have rf1 := rf 1
  clear rf
  go_enter Tryz.func30, Tryz.ntmps30
  go_upto_region 1 with fail
  rw [← hW]
  clear hW
  go_wp2_with fail
  refine (mayLie_at kind W).mono ?_
  rintro e w1 ⟨rfl, rfl⟩
  cases hk : along1 kind with
  | false =>
    have HK := hide hk
    clear hk
    go_wp2
    refine bodyPost_ret (v := .tuple #[.agg #[.int .i64 0, .slice none 0 0], .int .i64 3]) (by first | (simp [results, Tryz.results30, go_sem, r0, r1]; done) | (simp [results, Tryz.results30, go_sem, r0, r1]; rfl)) rfl ?_
    exact ⟨gr_set (gr_set GW.out _ _ (by simp)) _ _ (by simp), .inl ⟨HK.out, rfl⟩⟩
  | true =>
    have HK := hide hk
    clear hk
    by_cases hmany : n = 0 ∨ 12 < n
    · have HMM := hide hmany
      have hb : ((((n : Nat) : Int) == 0) = true) ∨ ((((n : Nat) : Int) == 0) = false ∧ (12 : Int) < (n : Int)) := by
        rcases hmany with h | h
        · exact .inl (by rw [h]; rfl)
        · exact .inr ⟨beq_eq_false_iff_ne.2 (by omega), by omega⟩
      clear hmany
      rcases hb with hb | ⟨hb, hb2⟩
      all_goals
        go_wp2
        refine bodyPost_ret (v := .tuple #[.agg #[.int .i64 0, .slice none 0 0], .int .i64 2]) (by first | (simp [results, Tryz.results30, go_sem, r0, r1]; done) | (simp [results, Tryz.results30, go_sem, r0, r1]; rfl)) rfl ?_
        exact ⟨gr_set (gr_set GW.out _ _ (by simp)) _ _ (by simp), .inr (.inl ⟨HK.out, HMM.out, rfl⟩)⟩
    · have hn0 : 0 < n := by omega
      have hn12 : n ≤ 12 := by omega
      have hb : (((n : Nat) : Int) == 0) = false := beq_eq_false_iff_ne.2 (by omega)
      have hb2 : ¬ (12 : Int) < (n : Int) := by omega
      clear hmany
      go_upto_region 7 with fail
      obtain ⟨w5, hw5⟩ : ∃ w5, w5 = (w1.alloc (Obj.cells #[.int .i64 2, .slice none 0 0] 61)).alloc (Obj.cells #[.int .i64 1] 3) := ⟨_, rfl⟩
      have G5 : Hid (w.grownBy w5 none) := by rw [hw5]; exact gr_alloc (gr_alloc GW.out _) _
      have N5 : Hid (NZ w5 w.heap.size) := by
        show _ = _
        rw [hw5, heap_alloc_old _ _ (by simp; omega), heap_alloc_old _ _ (by omega)]
        exact RES.out
      have B5 : Hid (w5.heap[w.heap.size + 1]? = some (.cells #[.int .i64 2, .slice none 0 0] 61 (0, 0))) := by
        show _ = _
        rw [hw5, heap_alloc_old _ _ (by simp; omega), ← hWs]
        exact heap_alloc_new _ _
      have C5 : Hid (w5.heap[w.heap.size + 1 + 1]? = some (.cells #[.int .i64 1] 3 (0, 0))) := by
        show _ = _
        have hs5 : (w1.alloc (Obj.cells #[.int .i64 2, .slice none 0 0] 61)).heap.size = w.heap.size + 1 + 1 := by simp; omega
        rw [hw5, ← hs5]
        exact heap_alloc_new _ _
      have hs5 : w5.heap.size = w.heap.size + 3 := by rw [hw5]; simp; omega
      rw [← hw5]
      obtain ⟨gh, hgh⟩ : ∃ gh, gh = w.heap.size + 1 + 1 := ⟨_, rfl⟩
      obtain ⟨gn, hgn⟩ : ∃ gn, gn = w.heap.size + 1 := ⟨_, rfl⟩
      obtain ⟨gr, hgr⟩ : ∃ gr, gr = w.heap.size := ⟨_, rfl⟩
      obtain ⟨base, hbase⟩ : ∃ base, base = w.heap.size + 3 := ⟨_, rfl⟩
      rw [← hgh, ← hgn, ← hgr]
      rw [← hgh] at C5
      rw [← hgn] at B5
      rw [← hgr] at N5
      have q1 : gn ≠ gh := by omega
      have q2 : gr ≠ gn := by omega
      have q3 : gr ≠ gh := by omega
      have q4 : gn < base := by omega
      have q5 : gh < base := by omega
      have q6 : gr < base := by omega
      have q7 : base ≤ w5.heap.size := by omega
      have q8 : w.heap.size ≤ gn := by omega
      have q9 : w.heap.size ≤ base := by omega
      have q10 : w.heap.size ≤ gr := by omega
      have q11 : w.heap.size ≤ gh := by omega
      clear hw5 hgh hgn hgr hbase hs5 hWs r0 r1 rf0 rf1 hb hb2
      go_wp2
      go_loopw [31] (fun v wr => Hid (BldR w kind (polyQ ls) n gr gn gh base v wr) ∧ base ≤ wr.heap.size) (fun v _ => n - (intOf v).toNat)
      case atStart => exact ⟨⟨0, by omega, rfl, fun j hj => by omega, N5.out, ⟨none, 0, B5.out, ownP_nil⟩, C5.out, G5.out⟩, q7⟩
      case round =>
        obtain ⟨hrel, hbs⟩ := hrel
        obtain ⟨i, hi, rfl, l1, l2, ⟨po, pc, l3, l4⟩, l5, l6⟩ := hrel.out
        have L1 := hide l1
        have L2 := hide l2
        have L3 := hide l3
        have L4 := hide l4
        have L5 := hide l5
        have L6 := hide l6
        obtain ⟨bl1, bl2, bl3⟩ := bldS_len kind (polyQ ls) n i
        have BS : Hid (bldS kind (polyQ ls) n (i + 1) = if i % 2 = 1 then ((bldS kind (polyQ ls) n i).1, (bldS kind (polyQ ls) n i).2.1, (bldS kind (polyQ ls) n i).2.2 ++ [newP 3 (bldS kind (polyQ ls) n i).2.1 0 (polyQ ls i)]) else if i + 1 = n then ((bldS kind (polyQ ls) n i).1, (bldS kind (polyQ ls) n i).2.1, (bldS kind (polyQ ls) n i).2.2 ++ [newP kind (bldS kind (polyQ ls) n i).2.1 0 (polyQ ls i)]) else if polyQ ls i = 0 then bldS kind (polyQ ls) n i else ((bldS kind (polyQ ls) n i).1 + 1, (bldS kind (polyQ ls) n i).1, (bldS kind (polyQ ls) n i).2.2 ++ [newP kind (bldS kind (polyQ ls) n i).2.1 (bldS kind (polyQ ls) n i).1 (polyQ ls i)])) := rfl
        have BE : Hid (i = n → bldS kind (polyQ ls) n i = bldS kind (polyQ ls) n n) := fun e => by rw [e]
        obtain ⟨S, hS⟩ : ∃ S, S = bldS kind (polyQ ls) n i := ⟨_, rfl⟩
        rw [← hS] at L3 L4 L5 bl1 bl2 bl3 BS BE
        obtain ⟨nd, hr, ps⟩ := S
        simp only at L3 L4 L5 bl1 bl2 bl3 BS
        obtain ⟨pl, hpl⟩ : ∃ pl, pl = ps.length := ⟨_, rfl⟩
        have HPL := hide hpl
        rw [← hpl] at L3 L4 bl1
        clear hrel l1 l2 l3 l4 l5 l6 hS hpl
        by_cases hlt : i < n
        · have hil : i < ls.length := by rw [← HN.out]; exact hlt
          obtain ⟨b, off, e1, hbl, c0'⟩ := H3.out i hil
          subst e1
          have c0 := L6.out.cell c0' (by simp)
          obtain ⟨tx, htx⟩ : ∃ tx, tx = ls[i] := ⟨_, rfl⟩
          have HSZ : Hid (tx.size ≤ 600000000 ∧ tx.size + 1 ≤ L) := by rw [htx]; exact HS.out (by rw [← HN.out]; exact hn12) i hil
          obtain ⟨q, hq⟩ : ∃ q, q = polyQ ls i := ⟨_, rfl⟩
          have HQT : Hid (q = ofR tx.data.toList) := by show _ = _; rw [hq, polyQ_at hil, htx]
          have HQ := hide hq
          rw [← hq] at BS
          rw [← htx] at c0
          unfold sv at c0
          clear c0' htx hq hil
          go_wp2_with (go_at_call 88; refine (ofText_at tx q L wr HSZ.out.1 HSZ.out.2 HQT (HM.out.keep0 L6.out)).mono ?_; rintro e w6 ⟨v6, rfl, f1, f2⟩; obtain ⟨fo, fl, fc, fo2, fl2, fc2, rfl⟩ := f1.shape; have F1 := hide f1; have F2 := hide f2; clear f1 f2)
          obtain ⟨w7, hw7⟩ : ∃ w7, w7 = w6.alloc (Obj.cells #[.bool (rB q), .slice fo fl fc, .slice fo2 fl2 fc2] 107) := ⟨_, rfl⟩
          obtain ⟨gv, hgv⟩ : ∃ gv, gv = w6.heap.size := ⟨_, rfl⟩
          have G7 : Hid (wr.grownBy w7 none) := by rw [hw7]; exact gr_alloc F2.out _
          have V7 : Hid (FRow w7 gv 1 (fun _ => q) L) := by
            rw [hw7, hgv]
            refine ⟨_, _, heap_alloc_new w6 _, fun j hj => ?_⟩
            obtain rfl : j = 0 := by omega
            exact ⟨_, _, rfl, rfl, rfl, F1.out.keep0 (gr_alloc (gr_refl _ _) _)⟩
          have hbv : wr.heap.size ≤ gv := by rw [hgv]; exact F2.out.size
          have F7 : Hid (FQ w7 (.agg #[.bool (rB q), .slice fo fl fc, .slice fo2 fl2 fc2]) q L) := by rw [hw7]; exact F1.out.keep0 (gr_alloc (gr_refl _ _) _)
          have XC : Hid (∀ wx, w7.grownBy wx none → wx.cell? ⟨gv, 0, none⟩ = some (.bool (rB q)) ∧ wx.cell? ⟨gv, 1, none⟩ = some (.slice fo fl fc) ∧ wx.cell? ⟨gv, 2, none⟩ = some (.slice fo2 fl2 fc2)) := by
            intro wx hg
            rw [hw7] at hg
            rw [hgv]
            exact box_three hg
          rw [← hw7, ← hgv]
          clear hw7 hgv F1 F2 c0
          have HPW : Hid (∀ wx, w7.grownBy wx none → NZ wx gr ∧ wx.heap[gn]? = some (.cells #[.int .i64 (nd : Nat), .slice po pl pc] 61 (0, 0)) ∧ wx.heap[gh]? = some (.cells #[.int .i64 (hr : Nat)] 3 (0, 0)) ∧ OwnP wx base (.slice po pl pc) ps ∧ FRow wx gv 1 (fun _ => q) L ∧ w.grownBy wx none ∧ base ≤ wx.heap.size) := by
            intro wx hg
            have hg2 := gr_none G7.out hg
            refine ⟨?_, ?_, ?_, L4.out.keep0 hg2, V7.out.keep0 hg, gr_none L6.out hg2, Nat.le_trans hbs hg2.size⟩
            · show _ = _
              rw [hg2.block gr (by omega) (by simp)]; exact L2.out
            · rw [hg2.block gn (by omega) (by simp)]; exact L3.out
            · rw [hg2.block gh (by omega) (by simp)]; exact L5.out
          refine (fSign_at _ q L w7 F7.out).mono ?_
          rintro e w8 ⟨rfl, g8⟩
          have G8 := hide g8
          obtain ⟨y0, y1, y2⟩ := XC.out w8 g8
          clear g8
          rcases Int.lt_trichotomy q.num 0 with hsg | hsg | hsg
          · have es : q.num.sign = -1 := Int.sign_eq_neg_one_of_neg hsg
            rw [es]
            have HSG := hide hsg
            obtain ⟨nz, _, _, _, _, gw, _⟩ := HPW.out w8 G8.out
            have NZ9 := hide nz
            have GW9 := hide gw
            obtain ⟨r0, r1, rf⟩ := two_cells NZ9.out
            have rf0 := rf 0
            have rf1 := rf 1
            clear rf nz gw
            clear hsg es y0 y1 y2
            go_wp2
            refine bodyPost_ret (v := .tuple #[.agg #[.int .i64 0, .slice none 0 0], .int .i64 5]) (by first | (simp [results, Tryz.results30, go_sem, r0, r1]; done) | (simp [results, Tryz.results30, go_sem, r0, r1]; rfl)) rfl ?_
            exact ⟨gr_set (gr_set GW9.out _ _ q10) _ _ q10, .inr (.inr (.inl ⟨HK.out, hn0, hn12, ⟨i, hlt, .inl (by rw [← HQ.out]; exact HSG.out)⟩, rfl⟩))⟩
          · have hq0 : q = 0 := Rat.num_eq_zero.1 hsg
            have HQ0 := hide hq0
            have es : q.num.sign = 0 := by rw [hsg]; rfl
            rw [es]
            have hz1 : Hid (decide (rN q = 0) = true) := by rw [hq0]; rfl
            clear hsg es hq0
            go_wp2_with fail
            refine (isZero_at _ _ _ _ L w8 (F7.out.keep0 G8.out)).mono ?_
            rintro e w9 ⟨rfl, g9⟩
            rw [hz1.out]
            have G9 := hide (gr_none G8.out g9)
            obtain ⟨z0, z1, z2⟩ := XC.out w9 G9.out
            clear g9 y0 y1 y2
            by_cases hi0 : 0 < i
            · have hi1 : (0 : Int) < (i : Int) := by omega
              have HI0 := hide hi0
              obtain ⟨nz, _, _, _, _, gw, _⟩ := HPW.out w9 G9.out
              have NZ9 := hide nz
              have GW9 := hide gw
              obtain ⟨r0, r1, rf⟩ := two_cells NZ9.out
              have rf0 := rf 0
              have rf1 := rf 1
              clear rf nz gw
              clear hi0 z0 z1 z2
              go_wp2
              refine bodyPost_ret (v := .tuple #[.agg #[.int .i64 0, .slice none 0 0], .int .i64 5]) (by first | (simp [results, Tryz.results30, go_sem, r0, r1]; done) | (simp [results, Tryz.results30, go_sem, r0, r1]; rfl)) rfl ?_
              exact ⟨gr_set (gr_set GW9.out _ _ q10) _ _ q10, .inr (.inr (.inl ⟨HK.out, hn0, hn12, ⟨i, hlt, .inr ⟨by rw [← HQ.out]; exact HQ0.out, .inl HI0.out⟩⟩, rfl⟩))⟩
            · have hi00 : i = 0 := by omega
              subst hi00
              by_cases hn1 : n = 1
              · subst hn1
                obtain ⟨nz, _, _, _, _, gw, _⟩ := HPW.out w9 G9.out
                have NZ9 := hide nz
                have GW9 := hide gw
                obtain ⟨r0, r1, rf⟩ := two_cells NZ9.out
                have rf0 := rf 0
                have rf1 := rf 1
                clear rf nz gw
                clear z0 z1 z2
                go_wp2
                refine bodyPost_ret (v := .tuple #[.agg #[.int .i64 0, .slice none 0 0], .int .i64 5]) (by first | (simp [results, Tryz.results30, go_sem, r0, r1]; done) | (simp [results, Tryz.results30, go_sem, r0, r1]; rfl)) rfl ?_
                exact ⟨gr_set (gr_set GW9.out _ _ q10) _ _ q10, .inr (.inr (.inl ⟨HK.out, hn0, hn12, ⟨0, hlt, .inr ⟨by rw [← HQ.out]; exact HQ0.out, .inr rfl⟩⟩, rfl⟩))⟩
              · have hlast : ((((0 : Nat) : Int)) == ((n : Int) - 1)) = false := beq_eq_false_iff_ne.2 (by omega)
                have hlast2 : ((0 : Int) == ((n : Int) - 1)) = false := beq_eq_false_iff_ne.2 (by omega)
                have HN1 := hide hn1
                clear hi0 hn1
                go_wp2_with (first
                  | (go_at_call 76; refine (isAcross_at 0 _ (by decide)).mono ?_; rintro e wx1 ⟨rfl, rfl⟩; rw [show decide (0 % 2 = 1) = false from rfl])
                  | (go_at_call 60; refine (isZero_at _ _ _ _ L _ (F7.out.keep0 G9.out)).mono ?_; rintro e wx2 ⟨rfl, gx2⟩; rw [hz1.out]; have GX2 := hide (gr_none G9.out gx2); clear gx2))
                go_roundw
                case rel =>
                  obtain ⟨nz, b1, b2, b3, _, b4, b5⟩ := HPW.out _ GX2.out
                  have eS : bldS kind (polyQ ls) n (0 + 1) = (nd, hr, ps) := by
                    rw [BS.out, if_neg (by decide), if_neg (by have := HN1.out; omega), if_pos HQ0.out]
                  refine ⟨⟨0 + 1, by omega, by go_num, fun j hj => ?_, nz, ⟨po, pc, by rw [eS]; simp only; rw [← HPL.out]; exact b1, by rw [eS]; simp only; rw [← HPL.out]; exact b3⟩, by rw [eS]; exact b2, b4⟩, b5⟩
                  obtain rfl : j = 0 := by omega
                  rintro (h | ⟨_, h | h⟩)
                  · rw [← HQ.out, HQ0.out] at h
                    exact absurd h (by decide)
                  · omega
                  · exact HN1.out h
                case measure => simp [intOf]; omega
          · have hqn : q ≠ 0 := fun e => by rw [e] at hsg; exact absurd hsg (by decide)
            have HQN := hide hqn
            have HSG := hide hsg
            have es : q.num.sign = 1 := Int.sign_eq_one_of_pos hsg
            rw [es]
            have hz1 : Hid (decide (rN q = 0) = false) := by
              refine decide_eq_false fun e => hqn ?_
              unfold rN at e
              exact Rat.num_eq_zero.1 (by omega)
            have NB : Hid (∀ j, j < i + 1 → ¬ badI (polyQ ls) n j) := by
              intro j hj
              by_cases e : j = i
              · subst e
                rintro (h | ⟨h, _⟩)
                · rw [← HQ.out] at h
                  have := HSG.out
                  omega
                · rw [← HQ.out] at h
                  exact HQN.out h
              · exact L1.out j (by omega)
            clear hsg es hqn
            go_wp2_with fail
            refine (isZero_at _ _ _ _ L w8 (F7.out.keep0 G8.out)).mono ?_
            rintro e w9 ⟨rfl, g9⟩
            rw [hz1.out]
            have G9 := hide (gr_none G8.out g9)
            obtain ⟨z0, z1, z2⟩ := XC.out w9 G9.out
            obtain ⟨nz, b1, b2, b3, b3', b4, b5⟩ := HPW.out w9 G9.out
            have NZ9 := hide nz
            have B1 := hide b1
            have B2 := hide b2
            have B3 := hide b3
            have B3' := hide b3'
            have B4 := hide b4
            have hd5 : Hid (∀ k, (Value.slice po pl pc).ownBlock = some k → k ≠ gv) := fun k ek => by have := (L4.out.fresh k ek).2; omega
            have hgnv : gn ≠ gv := by omega
            have hgrv : gr ≠ gv := by omega
            clear g9 y0 y1 y2 nz b1 b2 b3 b3' b4
            by_cases hodd : i % 2 = 1
            · have HODD := hide hodd
              have hac : Hid (decide (i % 2 = 1) = true) := decide_eq_true hodd
              clear hodd z0 z1 z2
              go_wp2_with (first
                | (go_at_call 76; refine (isAcross_at i _ (by omega)).mono ?_; rintro e wx1 ⟨rfl, rfl⟩; rw [hac.out])
                | (go_at_call 89; refine (lay_at gn gh gv 3 (hr : Nat) 0 (nd : Nat) q (.slice po pl pc) ps base L _ B1.out B2.out B3'.out B3.out q1 hgnv q4 q5 hd5.out (by have := HPL.out; omega) b5 hL (HT.out.keep0 B4.out)).mono ?_; rintro e wy ⟨rfl, hlay⟩; have HLAY := hide hlay; clear hlay))
              go_roundw
              case rel => exact bld_lay HLAY.out B3.out NZ9.out B4.out b5 q2 q6 q8 q9 (by omega) NB.out (by rw [BS.out, if_pos HODD.out])
              case measure => simp [intOf]; omega
            · have HODD := hide hodd
              have hac : Hid (decide (i % 2 = 1) = false) := decide_eq_false hodd
              by_cases hlst : i + 1 = n
              · have hlast : (((i : Nat) : Int) == ((n : Int) - 1)) = true := beq_iff_eq.2 (by omega)
                have HLST := hide hlst
                clear hodd hlst z0 z1 z2
                go_wp2_with (first
                  | (go_at_call 76; refine (isAcross_at i _ (by omega)).mono ?_; rintro e wx1 ⟨rfl, rfl⟩; rw [hac.out])
                  | (go_at_call 89; refine (lay_at gn gh gv kind (hr : Nat) 0 (nd : Nat) q (.slice po pl pc) ps base L _ B1.out B2.out B3'.out B3.out q1 hgnv q4 q5 hd5.out (by have := HPL.out; omega) b5 hL (HT.out.keep0 B4.out)).mono ?_; rintro e wy ⟨rfl, hlay⟩; have HLAY := hide hlay; clear hlay))
                go_roundw
                case rel => exact bld_lay HLAY.out B3.out NZ9.out B4.out b5 q2 q6 q8 q9 (by omega) NB.out (by rw [BS.out, if_neg HODD.out, if_pos HLST.out])
                case measure => simp [intOf]; omega
              · have hlast : (((i : Nat) : Int) == ((n : Int) - 1)) = false := beq_eq_false_iff_ne.2 (by omega)
                have HLST := hide hlst
                clear hodd hlst
                obtain ⟨s0, s1, _⟩ := two_cells B1.out
                go_wp2_with (first
                  | (go_at_call 76; refine (isAcross_at i _ (by omega)).mono ?_; rintro e wx1 ⟨rfl, rfl⟩; rw [hac.out])
                  | (go_at_call 60; refine (isZero_at _ _ _ _ L _ (F7.out.keep0 G9.out)).mono ?_; rintro e wz2 ⟨rfl, gz2⟩; rw [hz1.out]; have GZ2 := hide (gr_none G9.out gz2); obtain ⟨nz, b1, b2, b3, b3', b4, b5⟩ := HPW.out wz2 GZ2.out; have NZ9 := hide nz; have B1 := hide b1; have B2 := hide b2; have B3 := hide b3; have B3' := hide b3'; have B4 := hide b4; obtain ⟨t0, t1, _⟩ := two_cells B1.out; clear gz2 nz b1 b2 b3 b3' b4)
                  | (go_at_call 89; refine (lay_at gn gh gv kind (hr : Nat) (nd : Nat) (nd : Nat) q (.slice po pl pc) ps base L _ B1.out B2.out B3'.out B3.out q1 hgnv q4 q5 hd5.out (by have := HPL.out; omega) b5 hL (HT.out.keep0 B4.out)).mono ?_; rintro e wy ⟨rfl, hlay⟩; have HLAY := hide hlay; obtain ⟨ao9, c9, n1, n2, _, _, _, _, _⟩ := hlay; obtain ⟨x0, x1, xf⟩ := two_cells n1; obtain ⟨x2, xf2⟩ := one_cell n2; have xf0 := xf 0; have xf20 := xf2 0; clear n1 n2 xf xf2))
                go_roundw
                case rel => exact bld_go HLAY.out B3.out NZ9.out B4.out b5 q1 q2 q3 q4 q5 q6 q8 q9 q11 (by omega) NB.out (by rw [BS.out, if_neg HODD.out, if_neg HLST.out, if_neg HQN.out]) (by omega)
                case measure => simp [intOf]; omega
        · obtain rfl : i = n := by omega
          have hBE := BE.out rfl
          have NZ9 := hide L2.out
          obtain ⟨r0, r1, rf⟩ := two_cells NZ9.out
          have rf0 := rf 0
          have rf1 := rf 1
          obtain ⟨t0, t1, _⟩ := two_cells L3.out
          have q2' : gn ≠ gr := fun e => q2 e.symm
          have FIN : Hid (OwnP ((wr.setCell ⟨gr, 0, none⟩ (.int .i64 (nd : Nat))).setCell ⟨gr, 1, none⟩ (.slice po pl pc)) base (.slice po pl pc) ps) := by
            have g1 : wr.grownBy ((wr.setCell ⟨gr, 0, none⟩ (.int .i64 (nd : Nat))).setCell ⟨gr, 1, none⟩ (.slice po pl pc)) (some gr) :=
              ⟨rfl, rfl, rfl, by simp, fun k _ hr => by
                have hk : k ≠ gr := fun e => hr (by rw [e])
                rw [heap_setCell_other _ _ k _ hk, heap_setCell_other _ _ k _ hk]⟩
            exact L4.out.keep g1 (fun k ek e => by have := (L4.out.fresh k ek).1; simp only [Option.some.injEq] at e; omega)
          have HBE := hide hBE
          clear rf hBE
          go_wp2
          refine bodyPost_ret (v := .tuple #[.agg #[.int .i64 (nd : Nat), .slice po pl pc], .int .i64 0]) (by first | (simp [results, Tryz.results30, go_sem, r0, r1]; done) | (simp [results, Tryz.results30, go_sem, r0, r1]; rfl)) rfl ?_
          refine ⟨gr_set (gr_set L6.out _ _ q10) _ _ q10, .inr (.inr (.inr ⟨HK.out, hn0, hn12, L1.out, po, pc, ?_, ?_⟩))⟩
          · rw [← HBE.out]
            simp only
            rw [← HPL.out]
          · rw [← HBE.out]
            simp only
            rw [← HPL.out]
            have := FIN.out
            refine ⟨⟨this.1.1, ?_⟩, this.2⟩
            rcases this.1.2 with h | ⟨g, cap', cur, e, hb, rest⟩
            · exact .inl h
            · exact .inr ⟨g, cap', cur, e, by omega, rest⟩
end Go.Proofs.YtbihhkcgiepgaaeGreatDoor
