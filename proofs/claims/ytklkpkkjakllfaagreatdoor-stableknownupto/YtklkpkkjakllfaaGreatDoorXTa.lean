/- Slices of one-cell values that a call itself made: append. -/
import Derived.Test.YtklkpkkjakllfaaGreatDoorXBase
import Derived.Laws.AppendOwn
import Derived.Test.YtklkpkkjakllfaaGreatDoorXPe
import Derived.Test.YtklkpkkjakllfaaGreatDoorXFg
set_option linter.unusedVariables false
set_option linter.unusedSimpArgs false
set_option maxHeartbeats 4000000
set_option maxRecDepth 10000
namespace Go.Proofs.YtklkpkkjakllfaaGreatDoor
open Go.RowKit
def OwnG {α : Type} (f : α → Value) (t : TypeId) (w : World) (base : Nat) (v : Value) (xs : List α) : Prop := w.ownsRow base t 1 v xs.length (xs.map f)
def RowG {α : Type} (f : α → Value) (w : World) (v : Value) (xs : List α) : Prop := ∃ ao cap, v = .slice ao xs.length cap ∧ xs.length ≤ cap ∧ cap ≤ maxLen ∧ ∀ i (h : i < xs.length), ∃ b off, ao = some ⟨b, off, none⟩ ∧ b < w.heap.size ∧ w.cell? ⟨b, off + i, none⟩ = some (f xs[i])
theorem RowG.keep {α : Type} {f : α → Value} {w w' : World} {v : Value} {xs : List α} (h : RowG f w v xs) (hg : w.grownBy w' none) : RowG f w' v xs := by
  obtain ⟨ao, cap, e, h1, h2, h3⟩ := h
  refine ⟨ao, cap, e, h1, h2, fun i hi => ?_⟩
  obtain ⟨b, off, e, hb, c⟩ := h3 i hi
  exact ⟨b, off, e, Nat.lt_of_lt_of_le hb hg.size, hg.cell c (by simp)⟩
section
variable {α : Type} {f : α → Value} {t : TypeId} {w w' : World} {base : Nat} {v : Value} {xs : List α}
theorem ownG_nil : OwnG f t w base (.slice none 0 0) [] := World.ownsRow_nil _ _ _ _
theorem OwnG.row (h : OwnG f t w base v xs) : RowG f w v xs := by
  rcases h.2 with ⟨rfl, h0⟩ | ⟨g, cap, cur, rfl, hb, hh, h1, h2, h3, h4⟩
  · have : xs = [] := List.eq_nil_of_length_eq_zero h0
    subst this
    exact ⟨none, 0, rfl, by simp, by simp, fun i hi => by simp at hi⟩
  · refine ⟨_, cap, rfl, h1, h2, fun i hi => ⟨g, 0, rfl, (Array.getElem?_eq_some_iff.1 hh).1, ?_⟩⟩
    rw [Nat.zero_add]
    simp only [World.cell?, hh]
    have h5 : (cur.toList.take (xs.length * 1))[i]? = (xs.map f)[i]? := by rw [h4]
    rw [List.getElem?_take, if_pos (by omega)] at h5
    simpa [hi] using h5
theorem OwnG.fresh (h : OwnG f t w base v xs) : ∀ k, v.ownBlock = some k → base ≤ k ∧ k < w.heap.size := World.ownsRow.lt h
theorem OwnG.keep {row : Option Nat} (h : OwnG f t w base v xs) (hg : w.grownBy w' row) (hne : v.ownBlock = none ∨ v.ownBlock ≠ row) : OwnG f t w' base v xs := World.ownsRow.kept h hg hne
theorem OwnG.keep0 (h : OwnG f t w base v xs) (hg : w.grownBy w' none) : OwnG f t w' base v xs := h.keep hg (by cases hv : v.ownBlock <;> simp)
theorem OwnG.shape (h : OwnG f t w base v xs) : ∃ ao cap, v = .slice ao xs.length cap := by
  obtain ⟨ao, cap, e, _⟩ := h.row
  exact ⟨ao, cap, e⟩
end
theorem wpList_append_g {P : Program} {α : Type} (f : α → Value) (e : TypeId) (z0 : Value) (by_ : Nat) (W : World) {ops : Array Oper} {rest : List Oper} {o : Oper} {a : Act} {Q : Exit → Act → World → Prop}
    (hg : o.guard = none) (s x : Operand) (t : TypeId) (ho : o.op = .call { callee := .builtin .append, args := #[s, x], argTypes := #[t, t] }) (base : Nat)
    (h1 : P.underlying t = some (.slice e)) (hinfo : (P.info? e).map (fun i => (i.zero, i.size, i.bytes)) = some (some z0, 1, by_)) (hcz : z0.cells.size = 1)
    (v : Value) (xs : List α) (hs : a.eval s = v) (hown : OwnG f e W base v xs) (b : Nat) (y : α) (hx : a.eval x = .slice (some ⟨b, 0, none⟩) 1 1) (hc : W.cell? ⟨b, 0, none⟩ = some (f y)) (h1c : (f y).oneCell' = true)
    (hlen : xs.length ≤ 1000000) (hby : by_ ≤ 24) (hbase : base ≤ W.heap.size)
    (hK : ∀ ao cap w', OwnG f e w' base (.slice ao (xs.length + 1) cap) (xs ++ [y]) → W.grownBy w' v.ownBlock → wpList P ops Q rest (a.put o.dst (.slice ao (xs.length + 1) cap)) w') : wpList P ops Q (o :: rest) a W := by
  obtain ⟨i, hi, hz0, hz1, hz2⟩ := info_parts hinfo
  refine wpList_append_own W hg s x t ho base e i z0 1 by_ h1 hi hz0 hz1 hz2 hcz (by decide) v xs.length (xs.map f) hs hown ⟨b, 0, none⟩ 1 1 [f y] hx rfl ?_ ?_ (by unfold maxLen; omega) ?_ hbase ?_
  · intro j u hj
    match j with
    | 0 =>
      simp only [List.getElem?_cons_zero, Option.some.injEq] at hj
      subst hj
      simpa [Addr.add] using hc
    | j + 1 => simp at hj
  · intro u hu
    simp only [List.mem_singleton] at hu
    subst hu
    exact h1c
  · have : (xs.length + 1) * by_ ≤ (1000000 + 1) * 24 := Nat.mul_le_mul (by omega) hby
    omega
  · intro v' w' hown' hgr _
    have h2 : OwnG f e w' base v' (xs ++ [y]) := by
      unfold OwnG
      rw [List.length_append, List.map_append]
      exact hown'
    obtain ⟨ao, cap, rfl⟩ := h2.shape
    rw [List.length_append, List.length_singleton] at h2 ⊢
    exact hK ao cap w' h2 hgr
end Go.Proofs.YtklkpkkjakllfaaGreatDoor
namespace Go.Proofs.YtklkpkkjakllfaaGreatDoor
open Go.RowKit
abbrev sv (s : ByteArray) : Value := .string s
def MLen (w : World) : Prop := ∃ m : Int, w.cell? ⟨0, 0, none⟩ = some (.int .i64 m)
theorem MLen.keep0 {w w' : World} (h : MLen w) (hg : w.grownBy w' none) : MLen w' := by
  obtain ⟨m, hm⟩ := h
  exact ⟨m, hg.cell hm (by simp)⟩
def polyQ (ls : List ByteArray) : Nat → Rat := fun i => match ls[i]? with | some s => ofR s.data.toList | none => 0
theorem polyQ_at {ls : List ByteArray} {i : Nat} (h : i < ls.length) : polyQ ls i = ofR (ls[i]).data.toList := by
  unfold polyQ
  rw [List.getElem?_eq_getElem h]
theorem polyQ_out {ls : List ByteArray} {i : Nat} (h : ls.length ≤ i) : polyQ ls i = 0 := by
  unfold polyQ
  rw [List.getElem?_eq_none h]
theorem entOf1 : Ent 94 := Go.Proofs.enters_of Tryz.func94 (by kernel_rfl) rfl
theorem of1_at (bx : Nat) (v : Value) (ls : List ByteArray) (i L : Nat) (w : World) (hx : w.cell? ⟨bx, 0, none⟩ = some v) (hl : RowG sv w v ls) (hi : i < ls.length) (hs : (ls[i]).size ≤ 600000000) (hsL : (ls[i]).size + 1 ≤ L) (hml : MLen w) :
    Calls Tryz.prog 94 #[.int .i64 ((i : Nat) : Int), .pointer (some ⟨bx, 0, none⟩)] w fun e w' => FQE w (polyQ ls i) L e w' := by
  have eq := polyQ_at hi
  rw [eq]
  obtain ⟨ao, cap, rfl, hc, hm, hcell⟩ := hl
  unfold maxLen at hm
  obtain ⟨gx, off, rfl, hgl, c0⟩ := hcell i hi
  obtain ⟨s, hsx⟩ : ∃ s, s = ls[i] := ⟨_, rfl⟩
  rw [← hsx] at c0 hs hsL ⊢
  obtain ⟨q, hq⟩ : ∃ q, q = ofR s.data.toList := ⟨_, rfl⟩
  rw [← hq]
  have HQ := hide hq
  clear hq
  have hxl := cell_lt hx
  simp only at hxl
  have HML := hide hml
  have hlen : i < ls.length := hi
  obtain ⟨n, hn⟩ : ∃ n, n = ls.length := ⟨_, rfl⟩
  rw [← hn] at hx hc hlen
  clear hcell hsx eq hml hi hn
  obtain ⟨W, hW⟩ : ∃ W, W = w.alloc (Obj.cells #[.bool false, .slice none 0 0, .slice none 0 0] 75) := ⟨_, rfl⟩
  have GW : Hid (w.grownBy W none) := by rw [hW]; exact gr_alloc (gr_refl _ _) _
  have RES : Hid (∀ wx, W.grownBy wx none → (wx.cell? ⟨w.heap.size, 0, none⟩ = some (.bool false) ∧ wx.cell? ⟨w.heap.size, 1, none⟩ = some (.slice none 0 0) ∧ wx.cell? ⟨w.heap.size, 2, none⟩ = some (.slice none 0 0) ∧ ∀ i, wx.frozen? ⟨w.heap.size, i, none⟩ = false) ∧ NoWords wx w.heap.size) := by
    intro wx hg
    rw [hW] at hg
    exact ⟨res_cells hg, noWords_res hg⟩
  have s0 := GW.out.cell hx (by simp)
  have s1 := GW.out.cell c0 (by simp)
  clear hx c0
  have hi1 : (0 : Int) ≤ ((i : Nat) : Int) := by omega
  have hi2 : ((i : Nat) : Int) < (n : Int) := by omega
  obtain ⟨ml, hml⟩ := HML.out.keep0 GW.out
  have HM2 := hide hml
  clear hml
  go_enter Tryz.func94, Tryz.ntmps94
  go_upto_region 1 with fail
  rw [← hW]
  clear hW
  go_wp2_with fail
  refine (qOf_at s ml W hs HM2.out).mono ?_
  rintro e wf ⟨v6, rfl, f1, f2⟩
  rw [← HQ.out] at f1
  obtain ⟨fo, fl, fc, fo2, fl2, fc2, rfl⟩ := f1.shape
  obtain ⟨⟨r0, r1, r2, rf⟩, nw⟩ := RES.out wf f2
  have rf0 := rf 0
  have rf1 := rf 1
  have rf2 := rf 2
  have F1 := hide (f1.mono hsL)
  have F2 := hide f2
  have NW := hide nw
  clear rf f1 f2 nw s0 s1
  go_wp2
  refine bodyPost_ret (v := .agg #[.bool (rB q), .slice fo fl fc, .slice fo2 fl2 fc2]) (by first | (simp [results, Tryz.results94, go_sem, r0, r1, r2]; done) | (simp [results, Tryz.results94, go_sem, r0, r1, r2]; rfl)) rfl ?_
  exact ⟨_, rfl, FV.other F1.out NW.out gr_three, gr_set (gr_set (gr_set (gr_none GW.out F2.out) _ _ (by simp)) _ _ (by simp)) _ _ (by simp)⟩
theorem pof_at (v : Value) (ls : List ByteArray) (L : Nat) (w : World) (hl : RowG sv w v ls) (hn : ls.length ≤ 3000) (hs : ∀ i (h : i < ls.length), (ls[i]).size ≤ 600000000 ∧ (ls[i]).size + 1 ≤ L) (hml : MLen w) :
    Calls Tryz.prog 62 #[v] w fun e w' => PolE w (polyQ ls) L e w' := by
  have HL := hide hl
  have HS := hide hs
  have HM := hide hml
  obtain ⟨ao, cap, rfl, hc, hm, _⟩ := hl
  unfold maxLen at hm
  clear hs hml
  obtain ⟨n, hn'⟩ : ∃ n, n = ls.length := ⟨_, rfl⟩
  have HN := hide hn'
  rw [← hn'] at hn hc HL ⊢
  clear hn'
  obtain ⟨W, hW⟩ : ∃ W, W = w.alloc (Obj.cells #[.slice ao n cap] 22) := ⟨_, rfl⟩
  have GW : Hid (w.grownBy W none) := by rw [hW]; exact gr_alloc (gr_refl _ _) _
  have CX : Hid (W.cell? ⟨w.heap.size, 0, none⟩ = some (.slice ao n cap)) := by
    show _ = _
    rw [hW]
    go_simp
  have s0 := CX.out
  go_enter Tryz.func62, Tryz.ntmps62
  go_upto_region 1 with fail
  rw [← hW]
  clear hW
  go_wp2_with fail
  refine (filled_pol n 94 #[] #[.pointer (some ⟨w.heap.size, 0, none⟩)] (polyQ ls) L W entOf1 hn (fun i hi => polyQ_out (by rw [← HN.out]; exact hi)) ?_).mono ?_
  · intro i hi wx hg
    have hi2 : i < ls.length := by rw [← HN.out]; exact hi
    exact (of1_at w.heap.size _ ls i L wx (hg.cell CX.out (by simp)) (HL.out.keep (gr_none GW.out hg)) hi2 (HS.out i hi2).1 (HS.out i hi2).2 (HM.out.keep0 (gr_none GW.out hg))).mono (fun _ _ h => h)
  · rintro e w2 ⟨v, m, rfl, h1, h2, h3⟩
    obtain ⟨ao2, c, rfl, k1, k2, k3⟩ := h1
    have K3 := hide k3
    have K2 := hide k2
    have H2 := hide h2
    have H3 := hide h3
    clear k3 k2 h2 h3 s0
    go_wp2
    go_ret
    exact ⟨_, m, rfl, ⟨ao2, c, rfl, k1, K2.out, K3.out⟩, H2.out, gr_none GW.out H3.out⟩
def ReadE (w : World) (ls : List ByteArray) (L : Nat) (e : Ending) (w' : World) : Prop :=
  w.grownBy w' none ∧
  ((13 < ls.length ∧ e = .returned (.tuple #[.slice none 0 0, .int .i64 2])) ∨ (ls.length ≤ 13 ∧ PL (polyQ ls) 0 ∧ e = .returned (.tuple #[.slice none 0 0, .int .i64 9])) ∨
   (ls.length ≤ 13 ∧ ∃ v m, 0 < m ∧ m ≤ 13 ∧ PL (polyQ ls) m ∧ Rw w' v m (polyQ ls) L ∧ e = .returned (.tuple #[v, .int .i64 0])))
theorem PL_len {ls : List ByteArray} {m : Nat} (h : PL (polyQ ls) m) : m ≤ ls.length := by
  rcases Nat.lt_or_ge ls.length m with hl | hl
  · exact absurd (polyQ_out (i := m - 1) (by omega)) (h.2 (by omega))
  · exact hl
theorem read_at (v : Value) (ls : List ByteArray) (L : Nat) (w : World) (hl : RowG sv w v ls) (hs : ls.length ≤ 13 → ∀ i (h : i < ls.length), (ls[i]).size ≤ 600000000 ∧ (ls[i]).size + 1 ≤ L) (hml : MLen w) :
    Calls Tryz.prog 32 #[v] w fun e w' => ReadE w ls L e w' := by
  have HL := hide hl
  have HS := hide hs
  have HM := hide hml
  obtain ⟨ao, cap, rfl, hc, hm, _⟩ := hl
  unfold maxLen at hm
  clear hs hml
  obtain ⟨n, hn'⟩ : ∃ n, n = ls.length := ⟨_, rfl⟩
  have HN := hide hn'
  rw [← hn'] at hc HL ⊢
  clear hn'
  by_cases hbig : 13 < n
  · have hb : (13 : Int) < (n : Int) := by omega
    go_enter Tryz.func32, Tryz.ntmps32
    go_wp2
    refine bodyPost_ret (v := .tuple #[.slice none 0 0, .int .i64 2]) (by simp [results, Tryz.results32, go_sem]) rfl ?_
    exact ⟨gr_refl _ _, .inl ⟨by rw [← HN.out]; exact hbig, rfl⟩⟩
  · have hb : ¬ (13 : Int) < (n : Int) := by omega
    go_enter Tryz.func32, Tryz.ntmps32
    go_wp2_with fail
    refine (pof_at _ ls L w HL.out (by rw [← HN.out]; omega) (HS.out (by rw [← HN.out]; omega)) HM.out).mono ?_
    rintro e w2 ⟨v2, m, rfl, h1, h2, h3⟩
    have hmn : m ≤ n := by rw [HN.out]; exact PL_len h2
    have R2 := hide h1
    have P2 := hide h2
    have G2 := hide h3
    obtain ⟨ao2, c, rfl, k1, k2, k3⟩ := h1
    unfold maxLen at k2
    clear k3 h2 h3
    by_cases h0 : m = 0
    · have hd : Hid (decide (m = 0) = true) := decide_eq_true h0
      have P0 : Hid (PL (polyQ ls) 0) := by have := P2.out; rw [h0] at this; exact this
      clear h0
      go_wp2_with fail
      refine (pzero_at _ m (polyQ ls) L w2 R2.out).mono ?_
      rintro e w3 ⟨rfl, hw3⟩
      rw [hw3, hd.out]
      clear hw3
      go_wp2
      refine bodyPost_ret (v := .tuple #[.slice none 0 0, .int .i64 9]) (by simp [results, Tryz.results32, go_sem]) rfl ?_
      exact ⟨G2.out, .inr (.inl ⟨by rw [← HN.out]; omega, P0.out, rfl⟩)⟩
    · have hd : Hid (decide (m = 0) = false) := decide_eq_false h0
      go_wp2_with fail
      refine (pzero_at _ m (polyQ ls) L w2 R2.out).mono ?_
      rintro e w3 ⟨rfl, hw3⟩
      rw [hw3, hd.out]
      clear hw3
      go_wp2
      refine bodyPost_ret (v := .tuple #[.slice ao2 m c, .int .i64 0]) (by simp [results, Tryz.results32, go_sem]) rfl ?_
      exact ⟨G2.out, .inr (.inr ⟨by rw [← HN.out]; omega, _, m, by omega, by omega, P2.out, R2.out, rfl⟩)⟩
end Go.Proofs.YtklkpkkjakllfaaGreatDoor
namespace Go.Proofs.YtklkpkkjakllfaaGreatDoor
open Go.RowKit
def halfP (p : Nat → Rat) (n odd : Nat) : Nat → Rat := fun i => if i < n ∧ (n - 1 - i) % 2 = odd then (if 2 ≤ (n - 1 - i) % 4 then -p i else p i) else 0
theorem entAlong2 : Ent 66 := Go.Proofs.enters_of Tryz.func66 (by kernel_rfl) rfl
theorem along2_at (bx bo gx n c odd : Nat) (p : Nat → Rat) (i L : Nat) (w : World) (hx : w.cell? ⟨bx, 0, none⟩ = some (.slice (some ⟨gx, 0, none⟩) n c)) (ho : w.cell? ⟨bo, 0, none⟩ = some (.int .i64 ((odd : Nat) : Int))) (hodd : odd < 2)
    (hr : FRow w gx n p L) (hi : i < n) (hn : n ≤ 3000) (hc : n ≤ c) (hm : c ≤ maxLen) :
    Calls Tryz.prog 66 #[.int .i64 ((i : Nat) : Int), .pointer (some ⟨bx, 0, none⟩), .pointer (some ⟨bo, 0, none⟩)] w fun e w' => FQE w (halfP p n odd i) L e w' := by
  unfold maxLen at hm
  have hgl := hr.lt
  have hxl := cell_lt hx
  have hol := cell_lt ho
  simp only at hxl hol
  obtain ⟨uo, ul, uc, vo, vl, vc, c0, c1, c2, c3, _⟩ := hr.at i hi
  have C3 := hide c3
  clear hr c3
  obtain ⟨j, hj⟩ : ∃ j, n = i + 1 + j := ⟨n - 1 - i, by omega⟩
  have ej : n - 1 - i = j := by omega
  have eh : halfP p n odd i = if j % 2 = odd then (if 2 ≤ j % 4 then -p i else p i) else 0 := by
    unfold halfP
    rw [ej]
    by_cases h : j % 2 = odd
    · rw [if_pos ⟨hi, h⟩, if_pos h]
    · rw [if_neg (fun e => h e.2), if_neg h]
  rw [eh]
  clear eh ej
  obtain ⟨W, hW⟩ : ∃ W, W = w.alloc (Obj.cells #[.bool false, .slice none 0 0, .slice none 0 0] 75) := ⟨_, rfl⟩
  have GW : Hid (w.grownBy W none) := by rw [hW]; exact gr_alloc (gr_refl _ _) _
  have RES : Hid (∀ wx, W.grownBy wx none → (wx.cell? ⟨w.heap.size, 0, none⟩ = some (.bool false) ∧ wx.cell? ⟨w.heap.size, 1, none⟩ = some (.slice none 0 0) ∧ wx.cell? ⟨w.heap.size, 2, none⟩ = some (.slice none 0 0) ∧ ∀ i, wx.frozen? ⟨w.heap.size, i, none⟩ = false) ∧ NoWords wx w.heap.size) := by
    intro wx hg
    rw [hW] at hg
    exact ⟨res_cells hg, noWords_res hg⟩
  have s0 := GW.out.cell hx (by simp)
  have s5 := GW.out.cell ho (by simp)
  have s1 := GW.out.cell c0 (by simp)
  have s2 := GW.out.cell c1 (by simp)
  have s3 := GW.out.cell c2 (by simp)
  obtain ⟨⟨r0, r1, r2, rf⟩, nw⟩ := RES.out W (gr_refl _ _)
  have rf0 := rf 0
  have rf1 := rf 1
  have rf2 := rf 2
  have NW := hide nw
  clear hx ho c0 c1 c2 rf nw
  have hi1 : (0 : Int) ≤ ((i : Nat) : Int) := by omega
  have hi2 : ((i : Nat) : Int) < (n : Int) := by omega
  have n3 : w.heap.size ≠ gx := by omega
  have ea : (((n : Nat) : Int) - 1 - ((i : Nat) : Int)) = ((j : Nat) : Int) := by omega
  by_cases h2 : j % 2 = odd
  · have hp1 : ((((n : Nat) : Int) - 1 - ((i : Nat) : Int)) % 2) = ((odd : Nat) : Int) := by omega
    rw [if_pos h2]
    by_cases h4 : 2 ≤ j % 4
    · have hp2 : (2 : Int) ≤ (((n : Nat) : Int) - 1 - ((i : Nat) : Int)) % 4 := by omega
      rw [if_pos h4]
      clear ea h2 h4 hj
      go_enter Tryz.func66, Tryz.ntmps66
      go_upto_region 1 with fail
      rw [← hW]
      clear hW
      go_wp2_with fail
      refine (qOpp_at _ (p i) L W (C3.out.keep0 GW.out)).mono ?_
      rintro e wf ⟨v6, rfl, f1, f2⟩
      obtain ⟨fo, fl, fc, fo2, fl2, fc2, rfl⟩ := f1.shape
      clear r0 r1 r2 rf0 rf1 rf2
      obtain ⟨⟨r0, r1, r2, rf⟩, nw⟩ := RES.out wf f2
      have rf0 := rf 0
      have rf1 := rf 1
      have rf2 := rf 2
      have F1 := hide f1
      have F2 := hide f2
      have NW2 := hide nw
      clear rf f1 f2 nw
      go_wp2
      refine bodyPost_ret (v := .agg #[.bool (rB (-p i)), .slice fo fl fc, .slice fo2 fl2 fc2]) (by first | (simp [results, Tryz.results66, go_sem, r0, r1, r2]; done) | (simp [results, Tryz.results66, go_sem, r0, r1, r2]; rfl)) rfl ?_
      exact ⟨_, rfl, FV.other F1.out NW2.out gr_three, gr_set (gr_set (gr_set (gr_none GW.out F2.out) _ _ (by simp)) _ _ (by simp)) _ _ (by simp)⟩
    · have hp2 : ¬ (2 : Int) ≤ (((n : Nat) : Int) - 1 - ((i : Nat) : Int)) % 4 := by omega
      rw [if_neg h4]
      clear ea h2 h4 hj
      go_enter Tryz.func66, Tryz.ntmps66
      go_upto_region 1 with fail
      rw [← hW]
      clear hW
      go_wp2
      refine bodyPost_ret (v := .agg #[.bool (rB (p i)), .slice uo ul uc, .slice vo vl vc]) (by first | (simp [results, Tryz.results66, go_sem, r0, r1, r2]; done) | (simp [results, Tryz.results66, go_sem, r0, r1, r2]; rfl)) rfl ?_
      exact ⟨_, rfl, FV.other (C3.out.keep0 GW.out) NW.out gr_three, gr_set (gr_set (gr_set GW.out _ _ (by simp)) _ _ (by simp)) _ _ (by simp)⟩
  · have hp1 : ¬ ((((n : Nat) : Int) - 1 - ((i : Nat) : Int)) % 2) = ((odd : Nat) : Int) := by omega
    rw [if_neg h2]
    clear ea h2 hj
    go_enter Tryz.func66, Tryz.ntmps66
    go_upto_region 1 with fail
    rw [← hW]
    clear hW
    go_wp2
    refine bodyPost_ret (v := .agg #[.bool false, .slice none 0 0, .slice none 0 0]) (by first | (simp [results, Tryz.results66, go_sem, r0, r1, r2]; done) | (simp [results, Tryz.results66, go_sem, r0, r1, r2]; rfl)) rfl ?_
    exact ⟨_, rfl, fq_zero _ _, gr_set (gr_set (gr_set GW.out _ _ (by simp)) _ _ (by simp)) _ _ (by simp)⟩
theorem along1_at (bx : Nat) (x : Value) (n odd : Nat) (p : Nat → Rat) (L : Nat) (w : World) (hcx : w.cell? ⟨bx, 0, none⟩ = some x) (hx : Rw w x n p L) (hodd : odd < 2) (hn : n ≤ 3000) :
    Calls Tryz.prog 64 #[.int .i64 ((odd : Nat) : Int), .pointer (some ⟨bx, 0, none⟩)] w fun e w' => PolE w (halfP p n odd) L e w' := by
  have HX := hide hx
  obtain ⟨xo, xc, rfl, hc, hm, _⟩ := hx
  unfold maxLen at hm
  have hxl := cell_lt hcx
  simp only at hxl
  obtain ⟨W, hW⟩ : ∃ W, W = w.alloc (Obj.cells #[.int .i64 ((odd : Nat) : Int)] 3) := ⟨_, rfl⟩
  have GW : Hid (w.grownBy W none) := by rw [hW]; exact gr_alloc (gr_refl _ _) _
  have CX : Hid (W.cell? ⟨bx, 0, none⟩ = some (.slice xo n xc) ∧ W.cell? ⟨w.heap.size, 0, none⟩ = some (.int .i64 ((odd : Nat) : Int))) := by
    refine ⟨GW.out.cell hcx (by simp), ?_⟩
    rw [hW]
    go_simp
  obtain ⟨s0, s1⟩ := CX.out
  clear hcx
  go_enter Tryz.func64, Tryz.ntmps64
  go_upto_region 1 with fail
  rw [← hW]
  clear hW
  go_wp2_with fail
  refine (filled_pol n 66 #[] #[.pointer (some ⟨bx, 0, none⟩), .pointer (some ⟨w.heap.size, 0, none⟩)] (halfP p n odd) L W entAlong2 hn (fun i hi => by unfold halfP; rw [if_neg (by omega)]) ?_).mono ?_
  · intro i hi wx hg
    obtain ⟨ao, c, e, h1, h2, h3⟩ := HX.out
    simp only [Value.slice.injEq, true_and] at e
    obtain ⟨rfl, rfl⟩ := e
    obtain ⟨gx, rfl, hr⟩ := h3 (by omega)
    obtain ⟨t0, t1⟩ := CX.out
    exact (along2_at bx w.heap.size gx n xc odd p i L wx (hg.cell t0 (by simp)) (hg.cell t1 (by simp)) hodd (hr.keep0 (gr_none GW.out hg)) hi hn hc (by unfold maxLen; omega)).mono (fun _ _ h => h)
  · rintro e w2 ⟨v, m, rfl, h1, h2, h3⟩
    obtain ⟨ao, c, rfl, k1, k2, k3⟩ := h1
    have K3 := hide k3
    have K2 := hide k2
    have H2 := hide h2
    have H3 := hide h3
    clear k3 k2 h2 h3 s0 s1
    go_wp2
    go_ret
    exact ⟨_, m, rfl, ⟨ao, c, rfl, k1, K2.out, K3.out⟩, H2.out, gr_none GW.out H3.out⟩
def AloE (w : World) (p : Nat → Rat) (n L : Nat) (e : Ending) (w' : World) : Prop :=
  ∃ v1 v2 m1 m2, e = .returned (.tuple #[v1, v2]) ∧ Rw w' v1 m1 (halfP p n 0) L ∧ PL (halfP p n 0) m1 ∧ Rw w' v2 m2 (halfP p n 1) L ∧ PL (halfP p n 1) m2 ∧ w.grownBy w' none
theorem along_at (x : Value) (n : Nat) (p : Nat → Rat) (L : Nat) (w : World) (hx : Rw w x n p L) (hn : n ≤ 3000) :
    Calls Tryz.prog 33 #[x] w fun e w' => AloE w p n L e w' := by
  have HX := hide hx
  obtain ⟨xo, xc, rfl, hc, hm, _⟩ := hx
  obtain ⟨W, hW⟩ : ∃ W, W = w.alloc (Obj.cells #[.slice xo n xc] 63) := ⟨_, rfl⟩
  have GW : Hid (w.grownBy W none) := by rw [hW]; exact gr_alloc (gr_refl _ _) _
  have CX : Hid (W.cell? ⟨w.heap.size, 0, none⟩ = some (.slice xo n xc)) := by
    show _ = _
    rw [hW]
    go_simp
  go_enter Tryz.func33, Tryz.ntmps33
  go_upto_region 1 with fail
  rw [← hW]
  clear hW
  go_wp2_with fail
  refine (along1_at w.heap.size _ n 0 p L W CX.out (HX.out.keep0 GW.out) (by decide) hn).mono ?_
  rintro e w2 ⟨v, m, rfl, h1, h2, h3⟩
  have R2 := hide h1
  have P2 := hide h2
  have G2 := hide h3
  obtain ⟨ao, c, rfl, _, _, _⟩ := h1
  clear h2 h3
  go_wp2_with fail
  refine (along1_at w.heap.size _ n 1 p L w2 (G2.out.cell CX.out (by simp)) (HX.out.keep0 (gr_none GW.out G2.out)) (by decide) hn).mono ?_
  rintro e w3 ⟨v3, m3, rfl, h1, h2, h3⟩
  have R3 := hide h1
  have P3 := hide h2
  have G3 := hide h3
  obtain ⟨ao3, c3, rfl, _, _, _⟩ := h1
  clear h2 h3
  go_wp2
  refine bodyPost_ret (v := .tuple #[.slice ao m c, .slice ao3 m3 c3]) (by simp [results, Tryz.results33, go_sem]) rfl ?_
  exact ⟨_, _, m, m3, rfl, R2.out.keep0 G3.out, P2.out, R3.out, P3.out, gr_none GW.out (gr_none G2.out G3.out)⟩
end Go.Proofs.YtklkpkkjakllfaaGreatDoor
namespace Go.Proofs.YtklkpkkjakllfaaGreatDoor
def row0 (p : Nat → Rat) (n : Nat) : Nat → Rat := fun j => if 2 * j < n then p (n - 1 - 2 * j) else 0
def row1 (p : Nat → Rat) (n : Nat) : Nat → Rat := fun j => if 2 * j + 1 < n then p (n - 2 - 2 * j) else 0
theorem half0 (p : Nat → Rat) (n : Nat) (hn : 0 < n) : halfP p n 0 = rowP (row0 p n) (n - 1) := by
  funext i
  unfold halfP rowP
  by_cases h : i < n ∧ (n - 1 - i) % 2 = 0
  · rw [if_pos h, if_pos (show i ≤ n - 1 ∧ (n - 1 - i) % 2 = 0 by omega)]
    unfold row0 alt
    rw [if_pos (show 2 * ((n - 1 - i) / 2) < n by omega), show n - 1 - 2 * ((n - 1 - i) / 2) = i by omega]
    by_cases h4 : 2 ≤ (n - 1 - i) % 4
    · rw [if_pos h4, if_neg (by omega)]
      grind
    · rw [if_neg h4, if_pos (by omega)]
      grind
  · rw [if_neg h, if_neg (by omega)]
theorem half1 (p : Nat → Rat) (n : Nat) (hn : 1 < n) : halfP p n 1 = rowP (row1 p n) (n - 2) := by
  funext i
  unfold halfP rowP
  by_cases h : i < n ∧ (n - 1 - i) % 2 = 1
  · rw [if_pos h, if_pos (show i ≤ n - 2 ∧ (n - 2 - i) % 2 = 0 by omega)]
    unfold row1 alt
    rw [if_pos (show 2 * ((n - 2 - i) / 2) + 1 < n by omega), show n - 2 - 2 * ((n - 2 - i) / 2) = i by omega]
    by_cases h4 : 2 ≤ (n - 1 - i) % 4
    · rw [if_pos h4, if_neg (by omega)]
      grind
    · rw [if_neg h4, if_pos (by omega)]
      grind
  · rw [if_neg h, if_neg (by omega)]
theorem PL_half0 {p : Nat → Rat} {n : Nat} (h : PL p n) (hn : 0 < n) : PL (halfP p n 0) n := by
  refine ⟨fun i hi => by unfold halfP; rw [if_neg (by omega)], fun _ => ?_⟩
  unfold halfP
  rw [if_pos (by omega), if_neg (by omega)]
  exact h.2 hn
theorem half1_len {p : Nat → Rat} {n m : Nat} (hn : 0 < n) (h : PL (halfP p n 1) m) : m < n := by
  rcases Nat.lt_or_ge m n with hl | hl
  · exact hl
  · refine absurd ?_ (h.2 (by omega))
    unfold halfP
    rw [if_neg (by omega)]
theorem fit_neg {L : Nat} {q : Rat} (h : FitW L q) : FitW L (-q) := ⟨by rw [(oppB_q q).2.1]; exact h.1, h.2⟩
theorem fit_zero {L : Nat} (hL : 1 ≤ L) : FitW L 0 := fit_whole (m := 0) rfl (by decide) (Nat.zero_le _) hL
theorem half_fit {p : Nat → Rat} {n odd L : Nat} (hL : 1 ≤ L) (h : ∀ i, FitW L (p i)) (i : Nat) : FitW L (halfP p n odd i) := by
  unfold halfP
  split
  · split
    · exact fit_neg (h i)
    · exact h i
  · exact fit_zero hL
theorem plain_first {p : Nat → Rat} {n L0 : Nat} (hp : PL p n) (hn : n ≤ 13) (h : ∀ i, FitW L0 (p i)) : Whl (plainP p n) (14 * L0) := by
  intro i
  by_cases hi : i < n
  · obtain ⟨h1, h2⟩ := plain_whole (p := p) hi (shr_ne (i := n - 1) (by omega) (hp.2 (by omega)))
    refine ⟨h1, Nat.lt_of_le_of_lt h2 ?_⟩
    have h3 := shr_den (m := L0) (fun i => (h i).2) n
    have h4 : 4294967296 ^ (n * L0) ≤ 4294967296 ^ (13 * L0) := Nat.pow_le_pow_right (by decide) (Nat.mul_le_mul_right _ hn)
    rw [show 14 * L0 = L0 + 13 * L0 by omega, Nat.pow_add]
    have h5 : 0 < 4294967296 ^ (13 * L0) := Nat.pow_pos (by decide)
    exact Nat.lt_of_le_of_lt (Nat.mul_le_mul_left _ (Nat.le_trans h3 h4)) (Nat.mul_lt_mul_of_pos_right (h i).1 h5)
  · have e : plainP p n i = 0 := by
      unfold plainP
      rw [hp.1 i (by omega)]
      grind
    rw [e]
    exact whl_zero
theorem shr_first {p : Nat → Rat} {n L0 L : Nat} (hn : n ≤ 13) (h : ∀ i, FitW L0 (p i)) (hL : 14 * L0 + 1 ≤ L) (i : Nat) (hi : i ≤ n) : FitW L (shr p i) := by
  refine ⟨Nat.lt_of_lt_of_le (shr_num (fun i => (h i).1) i) (Nat.pow_le_pow_right (by decide) (by omega)), Nat.lt_of_le_of_lt (shr_den (m := L0) (fun i => (h i).2) i) ?_⟩
  have : i * L0 ≤ 13 * L0 := Nat.mul_le_mul_right _ (by omega)
  exact (Nat.pow_lt_pow_iff_right (by decide)).2 (by omega)
theorem vB_self (K a : Nat) : K + 3 ≤ vB K a := by
  unfold vB
  have : 1 ≤ 3 ^ (13 - a) := Nat.pow_pos (by decide)
  have := Nat.mul_le_mul_right (K + 3) this
  omega
theorem ten_words (n : Nat) : 10 ^ n ≤ 4294967296 ^ (n / 8 + 1) := by
  have h1 : 10 ^ n ≤ 16 ^ n := Nat.pow_le_pow_left (by decide) n
  have h2 : 16 ^ n ≤ 16 ^ (8 * (n / 8 + 1)) := Nat.pow_le_pow_right (by decide) (by omega)
  have h3 : 16 ^ (8 * (n / 8 + 1)) = 4294967296 ^ (n / 8 + 1) := by rw [Nat.pow_mul]
  omega
open Go.RowKit in
theorem ofR_fit (l : List UInt8) : FitW (l.length / 8 + 2) (ofR l) := by
  have hpow : ∀ k, k ≤ l.length + 1 → (10 : Nat) ^ k ≤ 4294967296 ^ (l.length / 8 + 2) := fun k hk =>
    Nat.le_trans (ten_words k) (Nat.pow_le_pow_right (by decide) (by omega))
  have hone : 1 < (4294967296 : Nat) ^ (l.length / 8 + 2) := Nat.lt_of_lt_of_le (by decide : 1 < 4294967296 ^ 1) (Nat.pow_le_pow_right (by decide) (by omega))
  have hz : FitW (l.length / 8 + 2) 0 := ⟨by show 0 < _; omega, by show 1 < _; exact hone⟩
  unfold ofR
  split
  · rename_i h
    simp only [Bool.and_eq_true] at h
    obtain ⟨h1, h2⟩ := h
    have digits : ∀ m : List UInt8, allD m = true → ∀ c ∈ m, isD c = true := by
      intro m hm
      unfold allD at hm
      simp only [Bool.and_eq_true, List.all_eq_true] at hm
      exact hm.2
    have d1 := dec_lt _ (digits _ h1)
    have d2 := dec_lt _ (digits _ h2)
    have l1 := (cut_le (Lib.trimPrefix l [45]) [47]).1
    have l2 : (downOf (Lib.trimPrefix l [45])).length ≤ l.length + 1 := by
      unfold downOf
      have := (cut_le (Lib.trimPrefix l [45]) [47]).2
      have := trimPrefix_le l [45]
      split
      · omega
      · simp
    have l3 := trimPrefix_le l [45]
    have p1 := hpow _ (Nat.le_trans l1 (by omega))
    have p2 := hpow _ l2
    by_cases hd : decL (downOf (Lib.trimPrefix l [45])) = 0
    · rw [hd, Rat.mkRat_zero]
      exact hz
    · refine ⟨?_, ?_⟩
      · unfold rN
        rw [Rat.num_mkRat, if_neg hd]
        refine Nat.lt_of_le_of_lt (Int.natAbs_ediv_le_natAbs _ _) ?_
        have e : (sgq (Lib.hasPrefix l [45]) (decL (Lib.cut (Lib.trimPrefix l [45]) [47]).1)).natAbs = decL (Lib.cut (Lib.trimPrefix l [45]) [47]).1 := by
          unfold sgq
          split <;> simp
        rw [e]
        omega
      · rw [Rat.den_mkRat, if_neg hd]
        exact Nat.lt_of_le_of_lt (Nat.div_le_self _ _) (by omega)
  · exact hz
theorem polyQ_fit {ls : List ByteArray} {L0 : Nat} (hL : 1 ≤ L0) (h : ∀ i (h : i < ls.length), (ls[i]).size / 8 + 2 ≤ L0) (i : Nat) : FitW L0 (polyQ ls i) := by
  by_cases hi : i < ls.length
  · rw [polyQ_at hi]
    obtain ⟨h1, h2⟩ := ofR_fit (ls[i]).data.toList
    have e : (ls[i]).data.toList.length = (ls[i]).size := (Lib.size_eq _).symm
    rw [e] at h1 h2
    exact ⟨Nat.lt_of_lt_of_le h1 (Nat.pow_le_pow_right (by decide) (h i hi)), Nat.lt_of_lt_of_le h2 (Nat.pow_le_pow_right (by decide) (h i hi))⟩
  · rw [polyQ_out (by omega)]
    exact fit_zero hL
end Go.Proofs.YtklkpkkjakllfaaGreatDoor
