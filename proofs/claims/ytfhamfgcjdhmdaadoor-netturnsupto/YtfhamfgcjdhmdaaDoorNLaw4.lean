/- NetTurns of a right net. -/
import Derived.Test.YtfhamfgcjdhmdaaDoorNLaw3
namespace Go.Proofs.YtfhamfgcjdhmdaaDoor
open Go.RowKit
set_option linter.unusedVariables false

def ManyR (n : Nat) (l : Nat → Nat) (mv v : Value) : Prop := ∃ i : Nat, i ≤ n ∧ v = .int .i64 i ∧ mv = .int .i64 ((roots i l : Nat) : Int)

theorem roots_le (i : Nat) (l : Nat → Nat) : roots i l ≤ i := by
  unfold roots
  have := List.countP_le_length (p := fun x => l x == x) (l := List.range i)
  simpa using this

theorem roots_succ (i : Nat) (l : Nat → Nat) : roots (i + 1) l = roots i l + if l i = i then 1 else 0 := by
  unfold roots
  rw [List.range_succ, List.countP_append, List.countP_singleton]
  simp

/-- The loops' loop. -/
def BigR (W : World) (L : Nat) (v : Value) (wr : World) : Prop := ∃ j : Nat, j ≤ L ∧ v = .int .i64 j ∧ W.grownBy wr none

/-- What is known of the loops and of the cuts. -/
structure Turn (E : List Pr) (lss css : List (List Int)) : Prop where
  len : ∀ l ∈ lss, l.length = E.length
  bd : ∀ l ∈ lss, ∀ x ∈ l, -1 ≤ x ∧ x ≤ 1
  zero : ∀ l ∈ lss, ∀ s, comb l E s = 0
  cut : ∀ c ∈ css, ∃ s : Nat → Int, (∀ x, s x = 0 ∨ s x = 1) ∧ c = E.map fun e => s e.1 - s e.2

theorem turn_of (E : List Pr) : Turn E (loopsUpto E.length (treeOf E) (cutsL E (treeOf E)) E.length) (cutsL E (treeOf E)) := by
  have key : ∀ l ∈ loopsUpto E.length (treeOf E) (cutsL E (treeOf E)) E.length, ∃ e, e < E.length ∧ e ∉ treeOf E ∧ l = loopVec E.length e (treeOf E) (cutsL E (treeOf E)) := by
    intro l hl
    unfold loopsUpto at hl
    obtain ⟨e, he, rfl⟩ := List.mem_map.1 hl
    rw [List.mem_filter] at he
    exact ⟨e, List.mem_range.1 he.1, by simpa using he.2, rfl⟩
  refine ⟨?_, ?_, ?_, ?_⟩
  · intro l hl
    obtain ⟨e, h1, h2, rfl⟩ := key l hl
    simp [loopVec, loopUpto_length]
  · intro l hl
    obtain ⟨e, h1, h2, rfl⟩ := key l hl
    exact loopVec_bd _ _ _ _ (fun i h => (cutsL_row E (treeOf E) i h).2)
  · intro l hl s
    obtain ⟨e, h1, h2, rfl⟩ := key l hl
    exact loop_zero E e h1 h2 s
  · intro c hc
    unfold cutsL at hc
    obtain ⟨t, ht, rfl⟩ := List.mem_map.1 hc
    exact ⟨side (without E (treeOf E) t) (E.getD t (0, 0)).1, side_bd _ _, rfl⟩

theorem count_of (ps : List Prt) (n : Nat) (h : ∀ i (h : i < ps.length), ∃ a b : Nat, ps[i].a = (a : Int) ∧ ps[i].b = (b : Int) ∧ a < n ∧ b < n) : ((loopsUpto ps.length (treeOf (prs ps)) (cutsL (prs ps) (treeOf (prs ps))) ps.length).length : Int) = (ps.length : Int) - (n : Int) + ((roots n (labF (prs ps)) : Nat) : Int) := by
  have h1 := loops_count ps.length (treeOf (prs ps)) (cutsL (prs ps) (treeOf (prs ps))) (treeUpto_nodup _ _) (treeOf_lt ps)
  have h2 := roots_net (prs ps) n (by
    intro p hp
    unfold prs at hp
    obtain ⟨q, hq, rfl⟩ := List.mem_map.1 hp
    obtain ⟨i, hi, rfl⟩ := List.getElem_of_mem hq
    obtain ⟨a, b, e1, e2, e3, e4⟩ := h i hi
    simp only [e1, e2]
    constructor <;> simp <;> assumption)
  omega

def At4R (n : Nat) (v : Value) : Prop := ∃ k : Nat, k ≤ n ∧ v = .int .i64 k
def Ct5R (w : World) (L : Nat) (v : Value) (wr : World) : Prop := ∃ k d : Nat, k ≤ L ∧ v = .int .i64 k ∧ wr = w.drewN d
def Ct6R (w : World) (l : List Int) (E : List Pr) (s : Nat → Int) (sv v : Value) (wr : World) : Prop := ∃ i d : Nat, i ≤ E.length ∧ v = .int .i64 i ∧ sv = .int .i64 (comb (l.take i) (E.take i) s) ∧ wr = w.drewN d

def At3R (W : World) (ga n : Nat) (l : List Int) (E : List Pr) (v : Value) (wr : World) : Prop := ∃ i : Nat, i ≤ E.length ∧ v = .int .i64 i ∧ IArr wr ga (atL n (l.take i) (E.take i)) ∧ W.grownBy wr none

set_option maxHeartbeats 8000000 in
set_option maxRecDepth 20000 in
theorem netTurns_ok (nodes : Int) (pv : Value) (ps : List Prt) (n : Nat) (w : World) (hb : Base w) (hp : PartsAt w pv ps) (hG : Good nodes ps n) (hC : checkN nodes ps = (0, 0)) :
    Calls Tryd.prog 3 #[.agg #[.int .i64 nodes, pv]] w fun e w' => e = .returned (.bool true) ∧ w.grownBy w' none := by
  have HB := hide hb
  have HP := hide hp
  have HG := hide hG
  have HCK := hide hC
  obtain ⟨ao, cap, rfl, h1, h2, h3⟩ := hp
  unfold maxLen at h2
  obtain ⟨rfl, g1, g2, g3, g4⟩ := hG
  have HE := hide g4
  have HPC := hide h3
  clear h3 hb g4 hC
  go_enter Tryd.func3, Tryd.ntmps3
  go_wp2_with fail
  have gW : w.grownBy (w.alloc (Obj.cells #[.int .i64 (n : Nat), .slice ao ps.length cap] 24)) none := gr_alloc (gr_refl _ _) _
  have GW := hide gW
  clear gW
  refine (looped_at _ (HB.out.keep GW.out)).mono ?_
  rintro e w1 ⟨rfl, a1⟩
  have A0 := hide a1
  have A1 := hide (gr_none GW.out a1)
  have b0 := a1.cell (a := ⟨w.heap.size, 0, none⟩) (v := .int .i64 (n : Nat)) (by go_simp) (by simp)
  have b1 := a1.cell (a := ⟨w.heap.size, 1, none⟩) (v := .slice ao ps.length cap) (by go_simp) (by simp)
  clear a1
  go_wp2_with fail
  refine (loops_ok (n : Nat) _ ps n _ (HB.out.keep A1.out) (HP.out.keep A1.out) HG.out HCK.out).mono ?_
  intro e w2 hE
  obtain ⟨lv, rfl, l1, l2⟩ := hE
  have L1 := hide l1
  have c0 := l2.cell b0 (by simp)
  have c1 := l2.cell b1 (by simp)
  have K2 := hide (gr_none A1.out l2)
  have hs2 : w.heap.size < w2.heap.size := by have := A0.out.size; have := l2.size; simp at *; omega
  obtain ⟨lvals, ⟨lo, lc, le, lj1⟩, lj2, lj3⟩ := l1
  subst le
  rw [lj2]
  rw [lj2] at L1
  clear l2 b0 b1 lj1 lj2 lj3
  go_wp2_with fail
  refine (cuts_ok (n : Nat) _ ps n _ (HB.out.keep (gr_alloc K2.out _)) (HP.out.keep (gr_alloc K2.out _)) HG.out HCK.out).mono ?_
  intro e w3 hE
  obtain ⟨cv, rfl, d1, d2⟩ := hE
  have D1 := hide d1
  have L3 := hide (L1.out.keep (gr_none (gr_alloc (gr_refl _ _) _) d2))
  have d0 := (gr_none (gr_alloc (gr_refl w2 none) _) d2).cell c0 (by simp)
  have d0' := (gr_none (gr_alloc (gr_refl w2 none) _) d2).cell c1 (by simp)
  have K3 := hide (gr_none (gr_alloc K2.out _) d2)
  have q2 := (res_two d2).1
  have q2' := (res_two d2).2.1
  have hs3 : w2.heap.size < w3.heap.size := by have := d2.size; simp at this; omega
  have hs3' : w.heap.size < w3.heap.size := by omega
  obtain ⟨cvals, ⟨co, cc, ce, cj1⟩, cj2, cj3⟩ := d1
  subst ce
  rw [cj2]
  rw [cj2] at D1
  clear d2 c0 c1 cj1 cj2 cj3 L1
  go_wp2_with fail
  refine (islands_ok (n : Nat) _ ps n _ (HB.out.keep (gr_alloc K3.out _)) (HP.out.keep (gr_alloc K3.out _)) HG.out HCK.out).mono ?_
  intro e w4 hE
  obtain ⟨gi, rfl, e1, e2⟩ := hE
  have I4 := hide e1
  have L4 := hide (L3.out.keep (gr_none (gr_alloc (gr_refl _ _) _) e2))
  have C4 := hide (D1.out.keep (gr_none (gr_alloc (gr_refl _ _) _) e2))
  have p2 := (gr_none (gr_alloc (gr_refl w3 none) _) e2).cell q2 (by simp)
  have p2' := (gr_none (gr_alloc (gr_refl w3 none) _) e2).cell q2' (by simp)
  have n0 := (gr_none (gr_alloc (gr_refl w3 none) _) e2).cell d0 (by simp)
  have n1 := (gr_none (gr_alloc (gr_refl w3 none) _) e2).cell d0' (by simp)
  have p3 := (res_two e2).1
  have p3' := (res_two e2).2.1
  have K4 := hide (gr_none (gr_alloc K3.out _) e2)
  have hs4 : w2.heap.size < w4.heap.size := by have := e2.size; simp at this; omega
  have hs4' : w3.heap.size < w4.heap.size := by have := e2.size; simp at this; omega
  have hs4w : w.heap.size < w4.heap.size := by omega
  have hgi := e1.lt
  have hsame := fault_same 0 0
  clear e1 e2 q2 q2' d0 d0' L3 D1
  go_wp2
  obtain ⟨W, hW⟩ : ∃ W, W = w4.alloc (Obj.cells #[Value.int IntKind.i64 0, Value.int IntKind.i64 0] 29) := ⟨_, rfl⟩
  have gWW : Hid (w4.grownBy W none) := by rw [hW]; exact gr_alloc (gr_refl _ _) _
  simp only [← hW]
  have n0W := gWW.out.cell n0 (by simp)
  have n1W := gWW.out.cell n1 (by simp)
  have IW := hide (I4.out.keep0 gWW.out)
  have LW := hide (L4.out.keep gWW.out)
  have CW := hide (C4.out.keep gWW.out)
  have KW := hide (gr_none K4.out gWW.out)
  clear hW n0 n1 p2 p2' p3 p3' hs2 hs3 hs3' hs4 hs4' hs4w hgi I4 L4 C4 hsame
  go_loop [9, 53] (fun mv v => ManyR n (labF (prs ps)) mv v) (fun _ v => n - (intOf v).toNat)
  case atStart => exact ⟨0, by omega, rfl, rfl⟩
  case round =>
    obtain ⟨i, hi, rfl, rfl⟩ := hrel
    have hrl := roots_le i (labF (prs ps))
    by_cases hlt : i < n
    · have ci := IW.out.cell i (by rw [labs_length]; exact hlt)
      rw [labs_get] at ci
      have hrs := roots_succ i (labF (prs ps))
      have hle := lab_le (prs ps) i
      by_cases hx : labF (prs ps) i = i
      · rw [if_pos hx] at hrs
        rw [hx] at ci
        have HRS := hide hrs
        generalize roots i (labF (prs ps)) = r at hrl HRS ⊢
        clear hrs hx hle
        go_wp2
        go_round
        case rel => exact ⟨i + 1, by omega, by go_num, by rw [HRS.out]; go_num⟩
        case measure => simp [intOf]; omega
      · rw [if_neg hx] at hrs
        have hbe : ((i : Int) == ((labF (prs ps) i : Nat) : Int)) = false := by rw [beq_eq_false_iff_ne]; omega
        have HRS := hide hrs
        generalize roots i (labF (prs ps)) = r at hrl HRS ⊢
        generalize labF (prs ps) i = z at ci hbe hle
        clear hrs hx
        go_wp2
        go_round
        case rel => exact ⟨i + 1, by omega, by go_num, by rw [HRS.out]; simp⟩
        case measure => simp [intOf]; omega
    · have hin : i = n := by omega
      rw [hin] at hrl ⊢
      have hcnt := count_of ps n HE.out
      have hpl : (prs ps).length = ps.length := by simp [prs]
      have hturn := turn_of (prs ps)
      rw [hpl] at hturn
      obtain ⟨lss, hlss⟩ : ∃ l, l = loopsUpto ps.length (treeOf (prs ps)) (cutsL (prs ps) (treeOf (prs ps))) ps.length := ⟨_, rfl⟩
      obtain ⟨css, hcss⟩ : ∃ l, l = cutsL (prs ps) (treeOf (prs ps)) := ⟨_, rfl⟩
      rw [← hlss] at LW hcnt hturn ⊢
      rw [← hcss] at CW hturn ⊢
      have hneq : ((lss.length : Int) != ((ps.length : Int) - (n : Int) + ((roots n (labF (prs ps)) : Nat) : Int))) = false := by rw [bne_eq_false_iff_eq]; exact hcnt
      generalize roots n (labF (prs ps)) = R at hrl hcnt hneq ⊢
      have hLb : lss.length ≤ 100 := by omega
      have HTURN := hide hturn
      have HPL := hide hpl
      clear hcnt hlss hcss hturn hpl hin hi hlt i
      go_wp2
      go_loopw [77] (fun v wr => Hid (BigR W lss.length v wr)) (fun v _ => lss.length - (intOf v).toNat)
      case atStart => exact ⟨0, by omega, rfl, gr_refl _ _⟩
      case round =>
        obtain ⟨j, hj, rfl, k1⟩ := hrel.out
        have K1 := hide k1
        have m0 := k1.cell n0W (by simp)
        have m1 := k1.cell n1W (by simp)
        clear k1 hrel
        by_cases hlt : j < lss.length
        · obtain ⟨vs, ⟨lo', lc', le', lq1, lq2, lq3⟩, lq4, lq5⟩ := LW.out
          simp only [Value.slice.injEq] at le'
          obtain ⟨rfl, hvl, rfl⟩ := le'
          have hvl1 : lss.length ≤ vs.length := by omega
          have hvl2 : vs.length ≤ lss.length := by omega
          clear hvl
          unfold maxLen at lq2
          obtain ⟨lb, loff, rfl, hlb, hlc⟩ := lq3 j (by omega)
          obtain ⟨ro, rc, re, r1, r2, r3⟩ := lq5 j (by omega) hlt
          simp only [id] at hlc
          rw [re] at hlc
          have hmem : lss[j] ∈ lss := List.getElem_mem hlt
          have hll := HTURN.out.len _ hmem
          have hlbd := HTURN.out.bd _ hmem
          have hlz := HTURN.out.zero _ hmem
          have ql := K1.out.cell hlc (by simp)
          rw [hll, HPL.out] at ql
          rw [hll, HPL.out] at r1
          have HR3 := hide r3
          obtain ⟨l, hl⟩ : ∃ l, l = lss[j] := ⟨_, rfl⟩
          rw [← hl] at HR3 hll hlbd hlz
          rw [HPL.out] at hll
          have HLL := hide hll
          have HLBD := hide hlbd
          have HLZ := hide hlz
          have hlss2 : lss.length ≤ lc := by omega
          unfold maxLen at r2
          clear lq3 lq5 re hlc hmem hll hlbd hlz r3 hl lq4
          go_wp2_with (at_make; refine wpList_make_g iv 3 0 8 _ rfl _ _ 32 rfl Tryd.underlying32 Tryd.infoInt rfl _ _ _ _ n rfl rfl (by omega) (by omega) (by omega) (by omega) ?_)
          intro w5 harr hgr
          have AR := hide harr
          have K5 := hide (gr_none K1.out hgr)
          have hga : W.heap.size ≤ wr.heap.size := K1.out.size
          have x0 := hgr.cell m0 (by simp)
          have x1 := hgr.cell m1 (by simp)
          generalize wr.heap.size = ga at *
          clear harr hgr
          go_wp2
          go_loopw [93] (fun v wr => Hid (At3R W ga n l (prs ps) v wr)) (fun v _ => ps.length - (intOf v).toNat)
          case atStart =>
            refine ⟨0, by omega, rfl, ?_, K5.out⟩
            have e : atL n (l.take 0) ((prs ps).take 0) = List.replicate n 0 := by
              apply List.ext_getElem
              · simp [atL]
              · intro i h1 h2; simp [atL, comb]
            rw [e]
            exact AR.out
          case round =>
            obtain ⟨i, hi, rfl, t1, t2⟩ := hrel.out
            rw [HPL.out] at hi
            have T1 := hide t1
            have T2 := hide t2
            have y0 := t2.cell n0W (by simp)
            have y1 := t2.cell n1W (by simp)
            clear t1 t2 hrel
            by_cases hlt3 : i < ps.length
            · obtain ⟨b, off, rfl, hb, c0, c1, c2, c3, c4, c5, c6⟩ := HPC.out i hlt3
              have hgg := gr_none KW.out T2.out
              obtain ⟨ea, eb, e1, e2, e3, e4⟩ := HE.out i hlt3
              have q0 := hgg.cell c0 (by simp)
              have q1 := hgg.cell c1 (by simp)
              have q2 := hgg.cell c2 (by simp)
              have q3 := hgg.cell c3 (by simp)
              have q4 := hgg.cell c4 (by simp)
              have q5 := hgg.cell c5 (by simp)
              have hpt := prs_take (ps := ps) hlt3
              rw [e1, e2, Int.toNat_natCast, Int.toNat_natCast] at hpt
              rw [e1] at q1
              rw [e2] at q2
              have HPT := hide hpt
              obtain ⟨rb, roff, hro, hrb, hrc⟩ := HR3.out i (by rw [HLL.out]; exact hlt3)
              subst hro
              have qr := T2.out.cell hrc (by simp)
              have hlt_ : l.take (i + 1) = l.take i ++ [l[i]'(by rw [HLL.out]; exact hlt3)] := List.take_succ_eq_append_getElem _
              have hxb := HLBD.out (l[i]'(by rw [HLL.out]; exact hlt3)) (List.getElem_mem _)
              obtain ⟨x, hx⟩ : ∃ x, x = l[i]'(by rw [HLL.out]; exact hlt3) := ⟨_, rfl⟩
              rw [← hx] at qr hlt_ hxb
              obtain ⟨xb1, xb2⟩ := hxb
              have HLT := hide hlt_
              have ca := T1.out.cell ea (by rw [atL_length]; exact e3)
              rw [atL_get] at ca
              have hcl : (l.take i).length = ((prs ps).take i).length := by simp [HLL.out, HPL.out]
              have hbd1 := comb_bd (dlt ea) (dlt_bd ea) ((prs ps).take i) (l.take i) (fun y hy => HLBD.out y (List.mem_of_mem_take hy))
              have hbl : ((prs ps).take i).length = i := by rw [List.length_take, HPL.out]; omega
              rw [hbl] at hbd1
              obtain ⟨za, hza⟩ : ∃ z, z = comb (l.take i) ((prs ps).take i) (dlt ea) := ⟨_, rfl⟩
              rw [← hza] at ca hbd1
              obtain ⟨za1, za2⟩ := hbd1
              have HZA := hide hza
              have HCL := hide hcl
              have hga2 := T1.out.lt
              have hrbw : rb < wr.heap.size := Nat.lt_of_lt_of_le hrb T2.out.size
              have hfa := T1.out.free ea
              generalize ps[i].kind = z0 at q0
              generalize ps[i].c = z3 at q3
              generalize ps[i].d = z4 at q4
              generalize ps[i].v = z5 at q5
              clear c0 c1 c2 c3 c4 c5 c6 hgg e1 e2 hpt hrc hlt_ hx hcl hza hbl
              go_wp2
              go_region
              have T3 := T1.out.set ea (za + x) (.int .i64 (za + x)) rfl
              have hlen3 : ((atL n (l.take i) ((prs ps).take i)).set ea (za + x)).length = n := by simp [atL_length]
              have cb := T3.cell eb (by rw [hlen3]; exact e4)
              have hfb := T3.free eb
              obtain ⟨zb, hzb⟩ : ∃ z, z = ((atL n (l.take i) ((prs ps).take i)).set ea (za + x)).getD eb 0 := ⟨_, rfl⟩
              have hzb2 : ((atL n (l.take i) ((prs ps).take i)).set ea (za + x))[eb]'(by rw [hlen3]; exact e4) = zb := by
                rw [hzb]
                simp [List.getD, atL_length, e4]
              rw [hzb2] at cb
              have hzbd : -100 ≤ zb ∧ zb ≤ 100 := by
                rw [← hzb2, List.getElem_set]
                by_cases hee : ea = eb
                · rw [if_pos hee]; omega
                · rw [if_neg hee, atL_get]
                  have hb4 := comb_bd (dlt eb) (dlt_bd eb) ((prs ps).take i) (l.take i) (fun y hy => HLBD.out y (List.mem_of_mem_take hy))
                  have : ((prs ps).take i).length ≤ 16 := by rw [List.length_take, HPL.out]; omega
                  omega
              obtain ⟨zb1, zb3⟩ := hzbd
              have qr2 : (wr.setCell ⟨ga, ea, none⟩ (.int .i64 (za + x))).cell? ⟨rb, roff + i, none⟩ = some (iv x) := by
                rw [World.cell?_of_block (w := wr) (a := ⟨rb, roff + i, none⟩) (heap_setCell_other _ _ _ _ (by show rb ≠ ga; omega))]
                exact qr
              have HZB := hide hzb
              have HT3 := hide T3
              clear T3 hlen3 hzb hzb2
              go_wp2
              go_region
              go_wp2
              go_roundw
              case rel =>
                refine ⟨i + 1, by rw [HPL.out]; omega, by go_num, ?_, ?_⟩
                · rw [HLT.out, HPT.out, ← atL_step n (l.take i) ((prs ps).take i) x ea eb HCL.out e3 e4, ← HZA.out, ← HZB.out]
                  exact (HT3.out.set eb (zb - x) (.int .i64 (zb - x)) rfl).keep0 (gr_drewN (gr_drewN (gr_alloc (gr_refl _ _) _) 1) 1)
                · exact gr_drewN (gr_drewN (gr_alloc (gr_set (gr_set T2.out _ _ hga) _ _ hga) _) 1) 1
              case measure => simp [intOf]; omega
            · have e1 : l.take i = l := List.take_of_length_le (by rw [HLL.out]; omega)
              have e2 : (prs ps).take i = prs ps := List.take_of_length_le (by rw [HPL.out]; omega)
              rw [e1, e2] at T1
              have hz4 : ∀ k, k < n → wr.cell? ⟨ga, k, none⟩ = some (.int .i64 0) := by
                intro k hk
                have := T1.out.cell k (by rw [atL_length]; exact hk)
                rw [atL_get, HLZ.out] at this
                exact this
              have HZ4 := hide hz4
              clear e1 e2 T1 hz4 HE HPC
              go_wp2
              go_loop [123] (fun v => At4R n v) (fun v => n - (intOf v).toNat)
              case atStart => exact ⟨0, by omega, rfl⟩
              case round =>
                obtain ⟨k, hk, rfl⟩ := hrel
                by_cases hlt4 : k < n
                · have hck := HZ4.out k hlt4
                  go_wp2
                  go_round
                  case rel => exact ⟨k + 1, by omega, by go_num⟩
                  case measure => simp [intOf]; omega
                · have CR := hide (CW.out.keep T2.out)
                  clear HZ4 y0 y1
                  go_wp2
                  go_loopw [132] (fun v wq => Ct5R wr css.length v wq) (fun v _ => css.length - (intOf v).toNat)
                  case atStart => exact ⟨0, 0, by omega, rfl, rfl⟩
                  case round =>
                    obtain ⟨q, d, hq, rfl, rfl⟩ := hrel
                    obtain ⟨cvs, ⟨co', cc', ce', cq1, cq2, cq3⟩, cq4, cq5⟩ := CR.out
                    simp only [Value.slice.injEq] at ce'
                    obtain ⟨rfl, hcvl, rfl⟩ := ce'
                    unfold maxLen at cq2
                    have hcl1 : css.length ≤ cvs.length := by omega
                    have hcl2 : cvs.length ≤ css.length := by omega
                    have HC3 := hide cq3
                    have HC4 := hide cq4
                    have HC5 := hide cq5
                    clear cq3 cq4 cq5 hcvl
                    by_cases hlt5 : q < css.length
                    · obtain ⟨cb, coff, rfl, hcb, hcc⟩ := HC3.out q (by omega)
                      obtain ⟨so, sc, se, s1, s2, s3⟩ := HC5.out q (by omega) hlt5
                      simp only [id] at hcc
                      rw [se] at hcc
                      obtain ⟨sd, hsd1, hsd2⟩ := HTURN.out.cut css[q] (List.getElem_mem hlt5)
                      have hcln : css[q].length = ps.length := by rw [hsd2, List.length_map, HPL.out]
                      rw [hcln] at hcc s1
                      unfold maxLen at s2
                      have HS3 := hide s3
                      have HSD1 := hide hsd1
                      have HSD2 := hide hsd2
                      have HCLN := hide hcln
                      clear s3 se hsd1 hsd2 hcln HC3 HC5
                      go_wp2
                      go_loopw [21, 138] (fun sv v wq => Ct6R wr l (prs ps) sd sv v wq) (fun _ v _ => ps.length - (intOf v).toNat)
                      case atStart => exact ⟨0, d, by omega, rfl, by simp [comb], rfl⟩
                      case round =>
                        obtain ⟨p, d2, hp6, rfl, rfl, rfl⟩ := hrel
                        rw [HPL.out] at hp6
                        have hb6 := comb_bd sd HSD1.out ((prs ps).take p) (l.take p) (fun y hy => HLBD.out y (List.mem_of_mem_take hy))
                        have hbl : ((prs ps).take p).length ≤ 16 := by rw [List.length_take, HPL.out]; omega
                        by_cases hlt6 : p < ps.length
                        · obtain ⟨sb, soff, hso, hsb, hsc⟩ := HS3.out p (by rw [HCLN.out]; exact hlt6)
                          obtain ⟨rb, roff, hro, hrb, hrc⟩ := HR3.out p (by rw [HLL.out]; exact hlt6)
                          subst hso hro
                          have qr := T2.out.cell hrc (by simp)
                          have hE6 : p < (prs ps).length := by rw [HPL.out]; exact hlt6
                          have hcv : css[q][p]'(by rw [HCLN.out]; exact hlt6) = sd (prs ps)[p].1 - sd (prs ps)[p].2 := by
                            have := HSD2.out
                            simp only [this, List.getElem_map]
                          rw [hcv] at hsc
                          have hlt_ : l.take (p + 1) = l.take p ++ [l[p]'(by rw [HLL.out]; exact hlt6)] := List.take_succ_eq_append_getElem _
                          have het : (prs ps).take (p + 1) = (prs ps).take p ++ [(prs ps)[p]] := List.take_succ_eq_append_getElem _
                          have hxb := HLBD.out (l[p]'(by rw [HLL.out]; exact hlt6)) (List.getElem_mem _)
                          have hs1 := HSD1.out (prs ps)[p].1
                          have hs2 := HSD1.out (prs ps)[p].2
                          have hcs := comb_snoc (l.take p) ((prs ps).take p) (l[p]'(by rw [HLL.out]; exact hlt6)) (prs ps)[p] sd (by simp [HLL.out, HPL.out])
                          rw [← hlt_, ← het] at hcs
                          obtain ⟨x, hx⟩ : ∃ x, x = l[p]'(by rw [HLL.out]; exact hlt6) := ⟨_, rfl⟩
                          rw [← hx] at qr hxb hcs
                          obtain ⟨y, hy⟩ : ∃ y, y = sd (prs ps)[p].1 - sd (prs ps)[p].2 := ⟨_, rfl⟩
                          rw [← hy] at hsc hcs
                          have hyb : -1 ≤ y ∧ y ≤ 1 := by omega
                          have hxy : -1 ≤ y * x ∧ y * x ≤ 1 := by
                            have : y = 0 ∨ y = 1 ∨ y = -1 := by omega
                            rcases this with h | h | h <;> rw [h] <;> omega
                          obtain ⟨xb1, xb2⟩ := hxb
                          obtain ⟨yb1, yb2⟩ := hyb
                          obtain ⟨xy1, xy2⟩ := hxy
                          obtain ⟨z, hz⟩ : ∃ z, z = comb (l.take p) ((prs ps).take p) sd := ⟨_, rfl⟩
                          rw [← hz] at hb6 hcs ⊢
                          rw [Int.mul_comm] at hcs
                          obtain ⟨zb1, zb2⟩ := hb6
                          have HCS := hide hcs
                          clear hcv hlt_ het hcs hx hy hz hs1 hs2 hrc
                          go_wp2
                          go_quiet (fail)
                          go_wp2
                          go_roundw
                          case rel => exact ⟨p + 1, _, by rw [HPL.out]; omega, by go_num, by rw [HCS.out], by first | rfl | (simp only [World.drewN_drewN]; rfl)⟩
                          case measure => simp [intOf]; omega
                        · have e1 : l.take p = l := List.take_of_length_le (by rw [HLL.out]; omega)
                          have e2 : (prs ps).take p = prs ps := List.take_of_length_le (by rw [HPL.out]; omega)
                          rw [e1, e2, HLZ.out]
                          clear e1 e2 hb6
                          go_wp2
                          go_roundw
                          case rel => exact ⟨q + 1, _, by omega, by go_num, rfl⟩
                          case measure => simp [intOf]; omega
                    · clear HC3 HC5
                      go_wp2
                      go_roundw
                      case rel => exact ⟨j + 1, by omega, by go_num, gr_drewN T2.out _⟩
                      case measure => simp [intOf]; omega
        · go_wp2
          go_ret
          exact ⟨rfl, gr_none KW.out K1.out⟩
end Go.Proofs.YtfhamfgcjdhmdaaDoor
