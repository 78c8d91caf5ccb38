/- frac: Abs, OfWord. -/
import Derived.Test.YtklkpkkjakllfaaGreatDoorXFg
import Derived.Deep.AppendLies
import Derived.Shelf.Abstract
import Derived.Deep.RegionHeld3
set_option linter.unusedVariables false
set_option linter.unusedSimpArgs false
set_option maxHeartbeats 4000000
set_option maxRecDepth 10000
namespace Go.Proofs.YtklkpkkjakllfaaGreatDoor
open Go.RowKit
def qabs (q : Rat) : Rat := if rB q then -q else q
theorem qabs_parts (q : Rat) : rB (qabs q) = false ∧ rN (qabs q) = rN q ∧ (qabs q).den = q.den := by
  unfold qabs
  obtain ⟨h1, h2, h3⟩ := oppB_q q
  by_cases h : rB q = true
  · rw [if_pos h, ← h1, h2, h3]
    exact ⟨by simp [oppB, h], rfl, rfl⟩
  · rw [if_neg h]
    exact ⟨by simpa using h, rfl, rfl⟩
theorem FV.abs {w w' : World} {u v : Value} {neg : Bool} {n d L : Nat} (h : FV w (.agg #[.bool neg, u, v]) neg n d L) (hg : w.grownBy w' none) : FV w' (.agg #[.bool false, u, v]) false n d L := by
  obtain ⟨up, down, e, h1, h2, h3, h4⟩ := h.keep0 hg
  simp only [Value.agg.injEq, Array.mk.injEq, List.cons.injEq, and_true, true_and] at e
  obtain ⟨rfl, rfl⟩ := e
  exact ⟨_, _, rfl, h1, h2, h3, fun hb => by cases hb⟩
theorem qabs_at (x : Value) (q : Rat) (L : Nat) (w : World) (hx : FQ w x q L) :
    Calls Tryz.prog 103 #[x] w fun e w' => FQE w (qabs q) L e w' := by
  have HX := hide hx
  obtain ⟨uo, ul, uc, do_, dl, dc, rfl⟩ := hx.shape
  clear hx
  obtain ⟨W, hW⟩ : ∃ W, W = (w.alloc (Obj.cells #[.bool (rB q), .slice uo ul uc, .slice do_ dl dc] 75)).alloc (Obj.cells #[.bool false, .slice none 0 0, .slice none 0 0] 75) := ⟨_, rfl⟩
  have GW : Hid (w.grownBy W none) := by rw [hW]; exact gr_alloc (gr_alloc (gr_refl _ _) _) _
  have CELLS : Hid ((W.cell? ⟨w.heap.size, 0, none⟩ = some (.bool (rB q)) ∧ W.cell? ⟨w.heap.size, 1, none⟩ = some (.slice uo ul uc) ∧ W.cell? ⟨w.heap.size, 2, none⟩ = some (.slice do_ dl dc) ∧ ∀ i, W.frozen? ⟨w.heap.size, i, none⟩ = false) ∧ (W.cell? ⟨w.heap.size + 1, 0, none⟩ = some (.bool false) ∧ W.cell? ⟨w.heap.size + 1, 1, none⟩ = some (.slice none 0 0) ∧ W.cell? ⟨w.heap.size + 1, 2, none⟩ = some (.slice none 0 0) ∧ ∀ i, W.frozen? ⟨w.heap.size + 1, i, none⟩ = false)) := by
    have hg : ((w.alloc (Obj.cells #[.bool (rB q), .slice uo ul uc, .slice do_ dl dc] 75)).alloc (Obj.cells #[.bool false, .slice none 0 0, .slice none 0 0] 75)).grownBy W none := by rw [← hW]; exact gr_refl _ _
    have a1 := res_cells (gr_none (gr_alloc (gr_refl _ none) _) hg)
    have a3 := res_cells hg
    have e3 : (w.alloc (Obj.cells #[.bool (rB q), .slice uo ul uc, .slice do_ dl dc] 75)).heap.size = w.heap.size + 1 := by simp
    rw [e3] at a3
    exact ⟨a1, a3⟩
  obtain ⟨⟨s0, s1, s2, sf⟩, ⟨r0, r1, r2, rf⟩⟩ := CELLS.out
  have sf0 := sf 0
  have rf0 := rf 0
  have rf1 := rf 1
  have rf2 := rf 2
  clear sf rf
  go_enter Tryz.func103, Tryz.ntmps103
  go_upto_region 1 with fail
  rw [← hW]
  clear hW
  go_wp2
  refine bodyPost_ret (v := .agg #[.bool false, .slice uo ul uc, .slice do_ dl dc]) (by first | (simp [results, Tryz.results103, go_sem, r0, r1, r2]; done) | (simp [results, Tryz.results103, go_sem, r0, r1, r2]; rfl)) rfl ?_
  have kF : w.grownBy ((((W.setCell ⟨w.heap.size, 0, none⟩ (.bool false)).setCell ⟨w.heap.size + 1, 0, none⟩ (.bool false)).setCell ⟨w.heap.size + 1, 1, none⟩ (.slice uo ul uc)).setCell ⟨w.heap.size + 1, 2, none⟩ (.slice do_ dl dc)) none := gr_set (gr_set (gr_set (gr_set GW.out _ _ (by simp)) _ _ (by simp)) _ _ (by simp)) _ _ (by simp)
  refine ⟨_, rfl, ?_, kF⟩
  obtain ⟨h1, h2, h3⟩ := qabs_parts q
  unfold FQ
  rw [h1, h2, h3]
  exact FV.abs HX.out kF
theorem ofWord_at (x : Nat) (w : World) (hx : x < 4294967296) :
    Calls Tryz.prog 107 #[.int .u32 (x : Nat)] w fun e w' => FQE w ((x : Nat) : Rat) 1 e w' := by
  obtain ⟨W, hW⟩ : ∃ W, W = w.alloc (Obj.cells #[.bool false, .slice none 0 0, .slice none 0 0] 75) := ⟨_, rfl⟩
  have GW : Hid (w.grownBy W none) := by rw [hW]; exact gr_alloc (gr_refl _ _) _
  have RES : Hid (∀ wx, W.grownBy wx none → (wx.cell? ⟨w.heap.size, 0, none⟩ = some (.bool false) ∧ wx.cell? ⟨w.heap.size, 1, none⟩ = some (.slice none 0 0) ∧ wx.cell? ⟨w.heap.size, 2, none⟩ = some (.slice none 0 0) ∧ ∀ i, wx.frozen? ⟨w.heap.size, i, none⟩ = false) ∧ NoWords wx w.heap.size) := by
    intro wx hg
    rw [hW] at hg
    exact ⟨res_cells hg, noWords_res hg⟩
  go_enter Tryz.func107, Tryz.ntmps107
  go_upto_region 1 with fail
  rw [← hW]
  clear hW
  go_wp2_with fail
  refine (fword_num x W hx).mono ?_
  rintro e w2 ⟨v2, rfl, f1, f2, _⟩
  obtain ⟨fo, fl, fc, rfl, _, _, _⟩ := f1.shape
  obtain ⟨⟨r0, r1, r2, rf⟩, nw⟩ := RES.out w2 f2
  have rf0 := rf 0
  have rf1 := rf 1
  have rf2 := rf 2
  have F1 : Hid (FV w2 (.agg #[.bool false, .slice fo fl fc, .slice none 0 0]) false x 1 1) := ⟨_, _, rfl, f1, .inl ⟨rfl, rfl⟩, Nat.gcd_one_right _, fun h => by cases h⟩
  have F2 := hide f2
  have NW := hide nw
  clear rf f1 f2 nw
  go_wp2
  refine bodyPost_ret (v := .agg #[.bool false, .slice fo fl fc, .slice none 0 0]) (by first | (simp [results, Tryz.results107, go_sem, r0, r1, r2]; done) | (simp [results, Tryz.results107, go_sem, r0, r1, r2]; rfl)) rfl ?_
  refine ⟨_, rfl, ?_, gr_set (gr_set (gr_set (gr_none GW.out F2.out) _ _ (by simp)) _ _ (by simp)) _ _ (by simp)⟩
  unfold FQ
  have e1 : rB ((x : Nat) : Rat) = false := by unfold rB; rw [Rat.num_natCast]; simp
  have e2 : rN ((x : Nat) : Rat) = x := by unfold rN; rw [Rat.num_natCast]; rfl
  have e3 : ((x : Nat) : Rat).den = 1 := Rat.den_natCast x
  rw [e1, e2, e3]
  exact FV.other F1.out NW.out gr_three
def trimLen (R : Nat → Rat) : Nat → Nat
  | 0 => 0
  | n + 1 => if R n = 0 then trimLen R n else n + 1
theorem trimLen_le (R : Nat → Rat) : ∀ n, trimLen R n ≤ n
  | 0 => Nat.le_refl _
  | n + 1 => by
    unfold trimLen
    have := trimLen_le R n
    split <;> omega
theorem trimLen_zero {R : Nat → Rat} {n : Nat} (h : R n = 0) : trimLen R (n + 1) = trimLen R n := by rw [trimLen, if_pos h]
theorem trimLen_pos {R : Nat → Rat} {n : Nat} (h : R n ≠ 0) : trimLen R (n + 1) = n + 1 := by rw [trimLen, if_neg h]
def PL (p : Nat → Rat) (n : Nat) : Prop := (∀ i, n ≤ i → p i = 0) ∧ (0 < n → p (n - 1) ≠ 0)
theorem trimLen_top (R : Nat → Rat) : ∀ n, (∀ i, trimLen R n ≤ i → i < n → R i = 0) ∧ (0 < trimLen R n → R (trimLen R n - 1) ≠ 0)
  | 0 => ⟨fun i _ h => absurd h (Nat.not_lt_zero _), fun h => absurd h (Nat.not_lt_zero _)⟩
  | n + 1 => by
    obtain ⟨h1, h2⟩ := trimLen_top R n
    by_cases h : R n = 0
    · rw [trimLen_zero h]
      refine ⟨fun i hi hn => ?_, h2⟩
      by_cases e : i = n
      · rw [e]; exact h
      · exact h1 i hi (by omega)
    · rw [trimLen_pos h]
      exact ⟨fun i hi hn => by omega, fun _ => h⟩
theorem PL_trim {R : Nat → Rat} {n : Nat} (h : ∀ i, n ≤ i → R i = 0) : PL R (trimLen R n) := by
  obtain ⟨h1, h2⟩ := trimLen_top R n
  refine ⟨fun i hi => ?_, h2⟩
  by_cases e : i < n
  · exact h1 i hi e
  · exact h i (by omega)
theorem PL_uniq {p : Nat → Rat} {m n : Nat} (h : PL p m) (k : PL p n) : m = n := by
  rcases Nat.lt_trichotomy m n with e | e | e
  · exact absurd (h.1 (n - 1) (by omega)) (k.2 (by omega))
  · exact e
  · exact absurd (k.1 (m - 1) (by omega)) (h.2 (by omega))
def Rw (w : World) (v : Value) (n : Nat) (R : Nat → Rat) (L : Nat) : Prop :=
  ∃ ao c, v = .slice ao n c ∧ n ≤ c ∧ c ≤ maxLen ∧ (0 < n → ∃ g, ao = some ⟨g, 0, none⟩ ∧ FRow w g n R L)
theorem Rw.keep0 {w w' : World} {v : Value} {n : Nat} {R : Nat → Rat} {L : Nat} (h : Rw w v n R L) (g : w.grownBy w' none) : Rw w' v n R L := by
  obtain ⟨ao, c, e, h1, h2, h3⟩ := h
  refine ⟨ao, c, e, h1, h2, fun h0 => ?_⟩
  obtain ⟨b, e1, e3⟩ := h3 h0
  exact ⟨b, e1, e3.keep0 g⟩
theorem Rw.congr {w : World} {v : Value} {n : Nat} {R R' : Nat → Rat} {L : Nat} (h : Rw w v n R L) (k : ∀ i, i < n → R i = R' i) : Rw w v n R' L := by
  obtain ⟨ao, c, e, h1, h2, h3⟩ := h
  refine ⟨ao, c, e, h1, h2, fun h0 => ?_⟩
  obtain ⟨b, e1, e3⟩ := h3 h0
  exact ⟨b, e1, e3.congr k⟩
theorem FRow.mono {w : World} {b n L L' : Nat} {R : Nat → Rat} (h : FRow w b n R L) (k : L ≤ L') : FRow w b n R L' := by
  obtain ⟨cur, e, hb, hc⟩ := h
  refine ⟨cur, e, hb, fun i hi => ?_⟩
  obtain ⟨u, d, c0, c1, c2, c3⟩ := hc i hi
  exact ⟨u, d, c0, c1, c2, c3.mono k⟩
theorem FRow.part {w : World} {b n m L : Nat} {R : Nat → Rat} (h : FRow w b n R L) (k : m ≤ n) : FRow w b m R L := by
  obtain ⟨cur, e, hb, hc⟩ := h
  exact ⟨cur, e, hb, fun i hi => hc i (by omega)⟩
theorem fq_zero (w : World) (L : Nat) : FQ w (.agg #[.bool (rB 0), .slice none 0 0, .slice none 0 0]) 0 L := by
  have e2 : rN 0 = 0 := rfl
  have e3 : (0 : Rat).den = 1 := rfl
  unfold FQ
  rw [e2, e3]
  exact ⟨_, _, rfl, ⟨[], Ws.nil _, rfl, rfl, by simp⟩, .inl ⟨rfl, rfl⟩, rfl, by decide⟩
theorem Tryz.infoF : (Tryz.prog.info? 75).map (fun i => (i.zero, i.size, i.bytes)) = some (some (.agg #[.bool false, .slice none 0 0, .slice none 0 0]), 3, 56) := by kernel_rfl
theorem wpList_make_f {P : Program} (w : World) {ops : Array Oper} {rest : List Oper} {o : Oper} {a : Act} {Q : Exit → Act → World → Prop}
    (hg : o.guard = none) (l c : Operand) (t : TypeId) (hop : o.op = Op.makeSlice t l c)
    (h1 : P.underlying t = some (.slice 75)) (hinfo : (P.info? 75).map (fun i => (i.zero, i.size, i.bytes)) = some (some (.agg #[.bool false, .slice none 0 0, .slice none 0 0]), 3, 56))
    (kl kc : IntKind) (L C : Int) (n : Nat) (hl : a.eval l = .int kl L) (hc : a.eval c = .int kc C) (hL : L = (n : Int)) (hC : C = (n : Int)) (b2 : n ≤ 1000000)
    (hK : ∀ w', FRow w' w.heap.size n (fun _ => 0) 0 → w.grownBy w' none → wpList P ops Q rest (a.put o.dst (.slice (some ⟨w.heap.size, 0, none⟩) n n)) w') :
    wpList P ops Q (o :: rest) a w := by
  obtain ⟨i, hi, hz0, hz1, hz2⟩ := info_parts hinfo
  refine wpList_make_full w hg l c t hop w.heap.size 75 i _ 3 h1 hi hz0 hz1 kl kc L C n hl hc hL hC (by rw [hz2]; omega) (by unfold maxLen; omega) (Nat.le_refl _) ?_
  intro w' hown hgr
  refine hK w' ?_ hgr
  obtain ⟨_, h⟩ := hown
  rcases h with ⟨h, _⟩ | ⟨g, cap, cur, h, _, hh, _, _, hsz, ht⟩
  · simp at h
  · simp only [Value.slice.injEq, Option.some.injEq, Addr.mk.injEq, and_true, true_and] at h
    obtain ⟨rfl, rfl⟩ := h
    have hcur : cur = madeCells (Value.agg #[.bool false, .slice none 0 0, .slice none 0 0]).cells (n * 3) := by
      apply Array.ext'
      rw [← ht, List.take_of_length_le (by simp [hsz])]
    refine ⟨cur, _, hh, fun j hj => ⟨.slice none 0 0, .slice none 0 0, ?_, ?_, ?_, fq_zero _ _⟩⟩
    · rw [hcur]
      have e : j * 3 % 3 = 0 := by omega
      simp only [madeCells, Value.cells, Array.getElem?_map]
      rw [Array.getElem?_eq_getElem (by simp; omega)]
      simp [e]
      rfl
    · rw [hcur]
      have e : (j * 3 + 1) % 3 = 1 := by omega
      simp only [madeCells, Value.cells, Array.getElem?_map]
      rw [Array.getElem?_eq_getElem (by simp; omega)]
      simp [e]
    · rw [hcur]
      have e : (j * 3 + 2) % 3 = 2 := by omega
      simp only [madeCells, Value.cells, Array.getElem?_map]
      rw [Array.getElem?_eq_getElem (by simp; omega)]
      simp [e]
def TrmR (w : World) (b n cap : Nat) (R : Nat → Rat) (v : Value) (wr : World) : Prop :=
  ∃ k : Nat, k ≤ n ∧ v = .slice (some ⟨b, 0, none⟩) k cap ∧ trimLen R k = trimLen R n ∧ w.grownBy wr none
theorem ptrim_at (b n cap : Nat) (R : Nat → Rat) (L : Nat) (w : World) (hr : FRow w b n R L) (hc : n ≤ cap) (hm : cap ≤ maxLen) :
    Calls Tryz.prog 96 #[.slice (some ⟨b, 0, none⟩) n cap] w fun e w' => e = .returned (.slice (some ⟨b, 0, none⟩) (trimLen R n) cap) ∧ w.grownBy w' none := by
  unfold maxLen at hm
  have HR := hide hr
  clear hr
  go_enter Tryz.func96, Tryz.ntmps96
  go_wp2
  go_loopw [0] (fun v wr => Hid (TrmR w b n cap R v wr)) (fun v _ => lenOf v)
  case atStart => exact ⟨n, Nat.le_refl _, rfl, rfl, gr_refl _ _⟩
  case round =>
    obtain ⟨k, hk, rfl, ht, g1⟩ := hrel.out
    have HT := hide ht
    have G1 := hide g1
    clear ht g1 hrel
    by_cases h0 : k = 0
    · subst h0
      go_wp2
      go_ret
      refine ⟨?_, G1.out⟩
      rw [← HT.out]
      rfl
    · obtain ⟨j, rfl⟩ : ∃ j, k = j + 1 := ⟨k - 1, by omega⟩
      obtain ⟨uo, ul, uc, do_, dl, dc, c0, c1, c2, c3, _⟩ := (HR.out.keep0 G1.out).at j (by omega)
      have C3 := hide c3
      clear c3 h0
      by_cases hz : R j = 0
      · have hz1 : Hid (decide (rN (R j) = 0) = true) := by rw [hz]; rfl
        have HZ := hide hz
        clear hz
        go_wp2_with (go_at_call 39; refine (isZero_at _ _ _ _ L _ C3.out).mono ?_; rintro e w2 ⟨rfl, k2⟩; rw [hz1.out]; have K2 := hide k2; clear k2)
        go_roundw
        case rel => exact ⟨j, by omega, by simp, by rw [← HT.out, trimLen_zero HZ.out], gr_none G1.out K2.out⟩
        case measure => simp [lenOf]
      · have hz1 : Hid (decide (rN (R j) = 0) = false) := by
          refine decide_eq_false fun e => hz ?_
          unfold rN at e
          exact Rat.num_eq_zero.1 (by omega)
        have HZ := hide hz
        clear hz
        go_wp2_with (go_at_call 39; refine (isZero_at _ _ _ _ L _ C3.out).mono ?_; rintro e w2 ⟨rfl, k2⟩; rw [hz1.out]; have K2 := hide k2; clear k2)
        go_ret
        refine ⟨?_, gr_none G1.out K2.out⟩
        rw [← HT.out, trimLen_pos HZ.out]
        rfl
def Ent (g : Nat) : Prop := ∀ args w, (callFunc g args).run Tryz.prog w = .ok (.enter g args) w
def upTo (R : Nat → Rat) (i : Nat) : Nat → Rat := fun j => if j < i then R j else 0
theorem upTo_put (R : Nat → Rat) (i j : Nat) : put (upTo R i) i (R i) j = upTo R (i + 1) j := by
  unfold put upTo
  by_cases h : j = i
  · rw [if_pos h, if_pos (by omega), h]
  · rw [if_neg h]
    by_cases h2 : j < i
    · rw [if_pos h2, if_pos (by omega)]
    · rw [if_neg h2, if_neg (by omega)]
def FilR (w : World) (b n : Nat) (R : Nat → Rat) (L : Nat) (v : Value) (wr : World) : Prop :=
  ∃ i : Nat, i ≤ n ∧ v = .int .i64 i ∧ FRow wr b n (upTo R i) L ∧ w.grownBy wr none
def PolE (w : World) (p : Nat → Rat) (L : Nat) (e : Ending) (w' : World) : Prop :=
  ∃ v m, e = .returned v ∧ Rw w' v m p L ∧ PL p m ∧ w.grownBy w' none
theorem filled_at (n g : Nat) (first caps : Array Value) (R : Nat → Rat) (L : Nat) (w : World) (eg : Ent g) (hn : n ≤ 3000) (h0 : ∀ i, n ≤ i → R i = 0)
    (hcl : ∀ i, i < n → ∀ wx, w.grownBy wx none → Calls Tryz.prog g (first ++ #[.int .i64 ((i : Nat) : Int)] ++ caps) wx fun e w' => FQE wx (R i) L e w') :
    Calls Tryz.prog 65 #[.int .i64 ((n : Nat) : Int), .func (.func g) first caps] w fun e w' => ∃ v, e = .returned v ∧ Rw w' v (trimLen R n) R L ∧ w.grownBy w' none := by
  have HC := hide hcl
  have H0 := hide h0
  unfold Ent at eg
  clear hcl h0
  go_enter Tryz.func65, Tryz.ntmps65
  go_wp2_with (refine wpList_make_f _ rfl _ _ 63 rfl Tryz.underlying63 Tryz.infoF .i64 .i64 _ _ n rfl rfl rfl rfl (by omega) ?_)
  intro W hF hG
  obtain ⟨b, hb⟩ : ∃ b, b = w.heap.size := ⟨_, rfl⟩
  rw [← hb] at hF ⊢
  have HF := hide hF
  have HG := hide hG
  have HB : Hid (b = w.heap.size) := hb
  clear hF hG hb
  go_wp2
  go_loopw [6, 11] (fun _ v wr => Hid (FilR w b n R L v wr)) (fun _ v _ => n - (intOf v).toNat)
  case atStart => exact ⟨0, by omega, rfl, (HF.out.mono (Nat.zero_le _)).congr (fun i _ => by unfold upTo; rw [if_neg (by omega)]), HG.out⟩
  case round =>
    obtain ⟨i, hi, rfl, l1, l2⟩ := hrel.out
    have L1 := hide l1
    have L2 := hide l2
    clear l1 l2 hrel
    by_cases hlt : i < n
    · have hbl := L1.out.lt
      go_wp2_with (go_at_fn g; refine (HC.out i hlt wr L2.out).mono ?_; rintro e w2 ⟨v2, rfl, p1, p2⟩; obtain ⟨ao, al, ac, bo, bl, bc, rfl⟩ := p1.shape; have P1 := hide p1; have P2 := hide p2; have F4 := hide (FRow.keep0 L1.out p2); obtain ⟨_, _, _, _, _, _, d0, d1, d2, _, df⟩ := F4.out.at i hlt; have df0 := df (i * 3); have df1 := df (i * 3 + 1); have df2 := df (i * 3 + 2); clear p1 p2 df)
      go_roundw
      case rel =>
        obtain ⟨r1, r2, r3⟩ := F4.out.set i hlt P1.out
        refine ⟨i + 1, by omega, by go_num, r1.congr (fun j _ => upTo_put R i j), ?_⟩
        refine gr_own2 (gr_none L2.out P2.out) r2 (fun k e => ?_)
        have := HB.out
        cases e
        omega
      case measure => simp [intOf]; omega
    · obtain rfl : i = n := by omega
      have hR := hide (L1.out.congr (R' := R) (fun j hj => by unfold upTo; rw [if_pos hj]))
      go_wp2_with (go_at_call 96; refine (ptrim_at b i i R L wr hR.out (Nat.le_refl _) (by unfold maxLen; omega)).mono ?_; rintro e w3 ⟨rfl, g3⟩; have G3 := hide g3; clear g3)
      go_ret
      refine ⟨_, rfl, ⟨_, _, rfl, trimLen_le R i, by unfold maxLen; omega, fun _ => ⟨b, rfl, ?_⟩⟩, gr_none L2.out G3.out⟩
      exact (hR.out.keep0 G3.out).part (trimLen_le R i)
theorem filled_pol (n g : Nat) (first caps : Array Value) (R : Nat → Rat) (L : Nat) (w : World) (eg : Ent g) (hn : n ≤ 3000) (h0 : ∀ i, n ≤ i → R i = 0)
    (hcl : ∀ i, i < n → ∀ wx, w.grownBy wx none → Calls Tryz.prog g (first ++ #[.int .i64 ((i : Nat) : Int)] ++ caps) wx fun e w' => FQE wx (R i) L e w') :
    Calls Tryz.prog 65 #[.int .i64 ((n : Nat) : Int), .func (.func g) first caps] w fun e w' => PolE w R L e w' := by
  refine (filled_at n g first caps R L w eg hn h0 hcl).mono ?_
  rintro e w' ⟨v, rfl, h1, h2⟩
  exact ⟨v, _, rfl, h1, PL_trim h0, h2⟩
theorem each1_at (bd bx gx n c g : Nat) (first caps : Array Value) (p : Nat → Rat) (q : Rat) (i L : Nat) (w : World) (eg : Ent g) (hd : w.cell? ⟨bd, 0, none⟩ = some (.func (.func g) first caps)) (hx : w.cell? ⟨bx, 0, none⟩ = some (.slice (some ⟨gx, 0, none⟩) n c))
    (hr : FRow w gx n p L) (hi : i < n) (hc : n ≤ c) (hm : c ≤ maxLen)
    (hdo : ∀ v wx, w.grownBy wx none → FQ wx v (p i) L → Calls Tryz.prog g (first ++ #[v] ++ caps) wx fun e w' => FQE wx q L e w') :
    Calls Tryz.prog 143 #[.int .i64 ((i : Nat) : Int), .pointer (some ⟨bd, 0, none⟩), .pointer (some ⟨bx, 0, none⟩)] w fun e w' => FQE w q L e w' := by
  unfold maxLen at hm
  unfold Ent at eg
  have HDO := hide hdo
  have hgl := hr.lt
  have hdl := cell_lt hd
  have hxl := cell_lt hx
  simp only at hdl hxl
  obtain ⟨uo, ul, uc, vo, vl, vc, c0, c1, c2, c3, _⟩ := hr.at i hi
  have C3 := hide c3
  clear hr c3 hdo
  obtain ⟨W, hW⟩ : ∃ W, W = w.alloc (Obj.cells #[.bool false, .slice none 0 0, .slice none 0 0] 75) := ⟨_, rfl⟩
  have GW : Hid (w.grownBy W none) := by rw [hW]; exact gr_alloc (gr_refl _ _) _
  have CX : Hid (∀ wx, W.grownBy wx none → wx.cell? ⟨bd, 0, none⟩ = some (.func (.func g) first caps) ∧ wx.cell? ⟨bx, 0, none⟩ = some (.slice (some ⟨gx, 0, none⟩) n c) ∧ wx.cell? ⟨gx, i * 3, none⟩ = some (.bool (rB (p i))) ∧ wx.cell? ⟨gx, i * 3 + 1, none⟩ = some (.slice uo ul uc) ∧ wx.cell? ⟨gx, i * 3 + 2, none⟩ = some (.slice vo vl vc)) := by
    intro wx hg
    have hg2 := gr_none GW.out hg
    exact ⟨hg2.cell hd (by simp), hg2.cell hx (by simp), hg2.cell c0 (by simp), hg2.cell c1 (by simp), hg2.cell c2 (by simp)⟩
  have RES : Hid (∀ wx, W.grownBy wx none → (wx.cell? ⟨w.heap.size, 0, none⟩ = some (.bool false) ∧ wx.cell? ⟨w.heap.size, 1, none⟩ = some (.slice none 0 0) ∧ wx.cell? ⟨w.heap.size, 2, none⟩ = some (.slice none 0 0) ∧ ∀ i, wx.frozen? ⟨w.heap.size, i, none⟩ = false) ∧ NoWords wx w.heap.size) := by
    intro wx hg
    rw [hW] at hg
    exact ⟨res_cells hg, noWords_res hg⟩
  clear c0 c1 c2 hd hx
  have GG : W.grownBy W none := gr_refl _ _
  obtain ⟨s0, s1, s2, s3, s4⟩ := CX.out W GG
  have n1 : w.heap.size ≠ bd := by omega
  have n2 : w.heap.size ≠ bx := by omega
  have n3 : w.heap.size ≠ gx := by omega
  have hi1 : (0 : Int) ≤ ((i : Nat) : Int) := by omega
  have hi2 : ((i : Nat) : Int) < (n : Int) := by omega
  go_enter Tryz.func143, Tryz.ntmps143
  go_upto_region 1 with fail
  rw [← hW]
  clear hW
  go_region_held3 (fun w' => w'.cell? ⟨bd, 0, none⟩ = some (.func (.func g) first caps) ∧ w'.cell? ⟨bx, 0, none⟩ = some (.slice (some ⟨gx, 0, none⟩) n c) ∧ w'.cell? ⟨gx, i * 3, none⟩ = some (.bool (rB (p i))) ∧ w'.cell? ⟨gx, i * 3 + 1, none⟩ = some (.slice uo ul uc) ∧ w'.cell? ⟨gx, i * 3 + 2, none⟩ = some (.slice vo vl vc)) (go_keep)
    (first | (go_at_fn g; refine (HDO.out _ _ (gr_none GW.out (by first | exact gr_none GG (gr_d _) | exact gr_none GG gr_d1 | exact GG)) (C3.out.keep0 (gr_none GW.out (by first | exact gr_none GG (gr_d _) | exact gr_none GG gr_d1 | exact GG)))).mono ?_; rintro e wf ⟨v6, rfl, f1, f2⟩; obtain ⟨fo, fl, fc, fo2, fl2, fc2, rfl⟩ := f1.shape; have GG : W.grownBy wf none := gr_none (by first | exact gr_none GG (gr_d _) | exact gr_none GG gr_d1 | exact GG) f2; obtain ⟨b0, b1, b2, b3, b4⟩ := CX.out wf GG; obtain ⟨⟨r0, r1, r2, rf⟩, nw⟩ := RES.out wf GG; have rf0 := rf 0; have rf1 := rf 1; have rf2 := rf 2; clear rf))
  all_goals
    have F1 := hide f1
    have NW := hide nw
    have HG := hide GG
    clear f1 f2 nw
    go_wp2
    refine bodyPost_ret (v := .agg #[.bool (rB q), .slice fo fl fc, .slice fo2 fl2 fc2]) (by first | (simp [results, Tryz.results143, go_sem, r0, r1, r2]; done) | (simp [results, Tryz.results143, go_sem, r0, r1, r2]; rfl)) rfl ?_
    exact ⟨_, rfl, FV.other F1.out NW.out gr_three, gr_set (gr_set (gr_set (gr_none GW.out HG.out) _ _ (by simp)) _ _ (by simp)) _ _ (by simp)⟩
theorem entE : Ent 143 := Go.Proofs.enters_of Tryz.func143 (by kernel_rfl) rfl
theorem each_at (x : Value) (n g : Nat) (first caps : Array Value) (p R : Nat → Rat) (L : Nat) (w : World) (eg : Ent g) (hx : Rw w x n p L) (hn : n ≤ 3000) (h0 : ∀ i, n ≤ i → R i = 0)
    (hdo : ∀ i, i < n → ∀ v wx, w.grownBy wx none → FQ wx v (p i) L → Calls Tryz.prog g (first ++ #[v] ++ caps) wx fun e w' => FQE wx (R i) L e w') :
    Calls Tryz.prog 98 #[x, .func (.func g) first caps] w fun e w' => PolE w R L e w' := by
  have HX := hide hx
  have HDO := hide hdo
  have H0 := hide h0
  obtain ⟨xo, xc, rfl, hc, hm, _⟩ := hx
  unfold maxLen at hm
  clear h0 hdo
  obtain ⟨W, hW⟩ : ∃ W, W = (w.alloc (Obj.cells #[.slice xo n xc] 63)).alloc (Obj.cells #[.func (.func g) first caps] 101) := ⟨_, rfl⟩
  have GW : Hid (w.grownBy W none) := by rw [hW]; exact gr_alloc (gr_alloc (gr_refl _ _) _) _
  have CX : Hid (W.cell? ⟨w.heap.size, 0, none⟩ = some (.slice xo n xc) ∧ W.cell? ⟨w.heap.size + 1, 0, none⟩ = some (.func (.func g) first caps)) := by
    rw [hW]
    exact ⟨by go_simp, by go_simp⟩
  obtain ⟨s0, s1⟩ := CX.out
  go_enter Tryz.func98, Tryz.ntmps98
  go_upto_region 1 with fail
  rw [← hW]
  clear hW
  go_wp2_with fail
  refine (filled_pol n 143 #[] #[.pointer (some ⟨w.heap.size + 1, 0, none⟩), .pointer (some ⟨w.heap.size, 0, none⟩)] R L W entE hn H0.out ?_).mono ?_
  · intro i hi wx hg
    obtain ⟨ao, c, e, h1, h2, h3⟩ := HX.out
    simp only [Value.slice.injEq, true_and] at e
    obtain ⟨rfl, rfl⟩ := e
    obtain ⟨gx, rfl, hr⟩ := h3 (by omega)
    have hg2 := gr_none GW.out hg
    obtain ⟨t0, t1⟩ := CX.out
    refine (each1_at (w.heap.size + 1) w.heap.size gx n xc g first caps p (R i) i L wx eg (hg.cell t1 (by simp)) (hg.cell t0 (by simp)) (hr.keep0 hg2) hi hc (by unfold maxLen; omega) ?_).mono (fun _ _ h => h)
    intro v wy hgy hv
    exact HDO.out i hi v wy (gr_none hg2 hgy) hv
  · rintro e w2 ⟨v, m, rfl, h1, h2, h3⟩
    obtain ⟨ao, c, rfl, k1, k2, k3⟩ := h1
    have K3 := hide k3
    have K2 := hide k2
    have H2 := hide h2
    have H3 := hide h3
    clear k3 k2 h2 h3 s0 s1
    go_wp2
    go_ret
    exact ⟨_, m, rfl, ⟨ao, c, rfl, k1, K2.out, K3.out⟩, H2.out, gr_none GW.out H3.out⟩
theorem entTimes : Ent 78 := Go.Proofs.enters_of Tryz.func78 (by kernel_rfl) rfl
theorem entOpp : Ent 67 := Go.Proofs.enters_of Tryz.func67 (by kernel_rfl) rfl
theorem scaled_at (x y : Value) (n : Nat) (p : Nat → Rat) (q : Rat) (L : Nat) (w : World) (hx : Rw w x n p L) (hy : FQ w y q L) (hn : n ≤ 3000) (hL : L ≤ 1000000000000) (h0 : ∀ i, n ≤ i → p i = 0) (hfit : ∀ i, i < n → FitW L (q * p i)) :
    Calls Tryz.prog 102 #[x, y] w fun e w' => PolE w (fun i => q * p i) L e w' := by
  have HX := hide hx
  have HY := hide hy
  have HF := hide hfit
  have H0 := hide h0
  obtain ⟨xo, xc, rfl, hc, hm, _⟩ := hx
  obtain ⟨yo, yl, yc, zo, zl, zc, rfl⟩ := hy.shape
  clear h0 hfit hy
  obtain ⟨W, hW⟩ : ∃ W, W = w.alloc (Obj.cells #[.bool (rB q), .slice yo yl yc, .slice zo zl zc] 75) := ⟨_, rfl⟩
  have GW : Hid (w.grownBy W none) := by rw [hW]; exact gr_alloc (gr_refl _ _) _
  have CX : Hid (W.cell? ⟨w.heap.size, 0, none⟩ = some (.bool (rB q)) ∧ W.cell? ⟨w.heap.size, 1, none⟩ = some (.slice yo yl yc) ∧ W.cell? ⟨w.heap.size, 2, none⟩ = some (.slice zo zl zc)) := by
    have hg : (w.alloc (Obj.cells #[.bool (rB q), .slice yo yl yc, .slice zo zl zc] 75)).grownBy W none := by rw [← hW]; exact gr_refl _ _
    exact box_three hg
  obtain ⟨s0, s1, s2⟩ := CX.out
  go_enter Tryz.func102, Tryz.ntmps102
  go_upto_region 1 with fail
  rw [← hW]
  clear hW
  go_wp2_with fail
  refine (each_at _ n 78 #[.agg #[.bool (rB q), .slice yo yl yc, .slice zo zl zc]] #[] p (fun i => q * p i) L W entTimes (HX.out.keep0 GW.out) hn (fun i hi => by rw [H0.out i hi, Rat.mul_zero]) ?_).mono ?_
  · intro i hi v wx hg hv
    refine (qTimes_at _ v q (p i) L L wx (HY.out.keep0 (gr_none GW.out hg)) hv (by omega)).mono ?_
    rintro e w' ⟨u, rfl, h1, h2⟩
    exact ⟨u, rfl, h1.tight (HF.out i hi), h2⟩
  · rintro e w2 ⟨v, m, rfl, h1, h2, h3⟩
    obtain ⟨ao, c, rfl, k1, k2, k3⟩ := h1
    have K3 := hide k3
    have K2 := hide k2
    have H2 := hide h2
    have H3 := hide h3
    clear k3 k2 h2 h3 s0 s1 s2
    go_wp2
    go_ret
    exact ⟨_, m, rfl, ⟨ao, c, rfl, k1, K2.out, K3.out⟩, H2.out, gr_none GW.out H3.out⟩
theorem popp_at (x : Value) (n : Nat) (p : Nat → Rat) (L : Nat) (w : World) (hx : Rw w x n p L) (hn : n ≤ 3000) (h0 : ∀ i, n ≤ i → p i = 0) :
    Calls Tryz.prog 72 #[x] w fun e w' => PolE w (fun i => -p i) L e w' := by
  have HX := hide hx
  have H0 := hide h0
  obtain ⟨xo, xc, rfl, hc, hm, _⟩ := hx
  clear h0
  go_enter Tryz.func72, Tryz.ntmps72
  go_wp2_with fail
  refine (each_at _ n 67 #[] #[] p (fun i => -p i) L w entOpp HX.out hn (fun i hi => by rw [H0.out i hi]; rfl) ?_).mono ?_
  · intro i hi v wx hg hv
    exact (qOpp_at v (p i) L wx hv).mono (fun _ _ h => h)
  · rintro e w2 ⟨v, m, rfl, h1, h2, h3⟩
    obtain ⟨ao, c, rfl, k1, k2, k3⟩ := h1
    have K3 := hide k3
    have K2 := hide k2
    have H2 := hide h2
    have H3 := hide h3
    clear k3 k2 h2 h3
    go_wp2
    go_ret
    exact ⟨_, m, rfl, ⟨ao, c, rfl, k1, K2.out, K3.out⟩, H2.out, H3.out⟩
theorem number_at (x : Value) (n i : Nat) (p : Nat → Rat) (L : Nat) (w : World) (hx : Rw w x n p L) (hi3 : i ≤ 100000) (h0 : ∀ i, n ≤ i → p i = 0) :
    Calls Tryz.prog 100 #[x, .int .i64 ((i : Nat) : Int)] w fun e w' => FQE w (p i) L e w' := by
  obtain ⟨xo, xc, rfl, hc, hm, hr⟩ := hx
  unfold maxLen at hm
  obtain ⟨W, hW⟩ : ∃ W, W = w.alloc (Obj.cells #[.bool false, .slice none 0 0, .slice none 0 0] 75) := ⟨_, rfl⟩
  have GW : Hid (w.grownBy W none) := by rw [hW]; exact gr_alloc (gr_refl _ _) _
  have RES : Hid ((W.cell? ⟨w.heap.size, 0, none⟩ = some (.bool false) ∧ W.cell? ⟨w.heap.size, 1, none⟩ = some (.slice none 0 0) ∧ W.cell? ⟨w.heap.size, 2, none⟩ = some (.slice none 0 0) ∧ ∀ i, W.frozen? ⟨w.heap.size, i, none⟩ = false) ∧ NoWords W w.heap.size) := by
    have hg : (w.alloc (Obj.cells #[.bool false, .slice none 0 0, .slice none 0 0] 75)).grownBy W none := by rw [← hW]; exact gr_refl _ _
    exact ⟨res_cells hg, noWords_res hg⟩
  obtain ⟨⟨r0, r1, r2, rf⟩, nw⟩ := RES.out
  have rf0 := rf 0
  have rf1 := rf 1
  have rf2 := rf 2
  have NW := hide nw
  clear nw rf
  have hneg : ¬ ((i : Nat) : Int) < 0 := by omega
  by_cases hlt : i < n
  · obtain ⟨gx, ex, hr1⟩ := hr (by omega)
    subst ex
    have hgl := hr1.lt
    obtain ⟨uo, ul, uc, vo, vl, vc, c0, c1, c2, c3, _⟩ := (hr1.keep0 GW.out).at i hlt
    have C3 := hide c3
    have n3 : w.heap.size ≠ gx := by omega
    have hi1 : (0 : Int) ≤ ((i : Nat) : Int) := by omega
    have hi2 : ((i : Nat) : Int) < (n : Int) := by omega
    have hi4 : ¬ ((n : Nat) : Int) ≤ (i : Int) := by omega
    clear hr hr1 c3 h0
    go_enter Tryz.func100, Tryz.ntmps100
    go_upto_region 1 with fail
    rw [← hW]
    clear hW
    go_wp2
    refine bodyPost_ret (v := .agg #[.bool (rB (p i)), .slice uo ul uc, .slice vo vl vc]) (by first | (simp [results, Tryz.results100, go_sem, r0, r1, r2]; done) | (simp [results, Tryz.results100, go_sem, r0, r1, r2]; rfl)) rfl ?_
    exact ⟨_, rfl, FV.other C3.out NW.out gr_three, gr_set (gr_set (gr_set GW.out _ _ (by simp)) _ _ (by simp)) _ _ (by simp)⟩
  · have e0 : Hid (p i = 0) := h0 i (by omega)
    have hi4 : ((n : Nat) : Int) ≤ (i : Int) := by omega
    clear hr h0
    go_enter Tryz.func100, Tryz.ntmps100
    go_upto_region 1 with fail
    rw [← hW]
    clear hW
    go_wp2
    refine bodyPost_ret (v := .agg #[.bool false, .slice none 0 0, .slice none 0 0]) (by first | (simp [results, Tryz.results100, go_sem, r0, r1, r2]; done) | (simp [results, Tryz.results100, go_sem, r0, r1, r2]; rfl)) rfl ?_
    refine ⟨_, rfl, ?_, gr_set (gr_set (gr_set GW.out _ _ (by simp)) _ _ (by simp)) _ _ (by simp)⟩
    rw [e0.out]
    exact fq_zero _ _
theorem last_at (x : Value) (n : Nat) (p : Nat → Rat) (L : Nat) (w : World) (hx : Rw w x n p L) (hn0 : 0 < n) (hn : n ≤ 3000) (h0 : ∀ i, n ≤ i → p i = 0) :
    Calls Tryz.prog 69 #[x] w fun e w' => FQE w (p (n - 1)) L e w' := by
  have HX := hide hx
  have H0 := hide h0
  obtain ⟨xo, xc, rfl, hc, hm, hr⟩ := hx
  unfold maxLen at hm
  clear hr h0
  obtain ⟨k, rfl⟩ : ∃ k, n = k + 1 := ⟨n - 1, by omega⟩
  have ek : k + 1 - 1 = k := rfl
  rw [ek]
  obtain ⟨W, hW⟩ : ∃ W, W = w.alloc (Obj.cells #[.bool false, .slice none 0 0, .slice none 0 0] 75) := ⟨_, rfl⟩
  have GW : Hid (w.grownBy W none) := by rw [hW]; exact gr_alloc (gr_refl _ _) _
  have RES : Hid (∀ wx, W.grownBy wx none → (wx.cell? ⟨w.heap.size, 0, none⟩ = some (.bool false) ∧ wx.cell? ⟨w.heap.size, 1, none⟩ = some (.slice none 0 0) ∧ wx.cell? ⟨w.heap.size, 2, none⟩ = some (.slice none 0 0) ∧ ∀ i, wx.frozen? ⟨w.heap.size, i, none⟩ = false) ∧ NoWords wx w.heap.size) := by
    intro wx hg
    rw [hW] at hg
    exact ⟨res_cells hg, noWords_res hg⟩
  go_enter Tryz.func69, Tryz.ntmps69
  go_upto_region 1 with fail
  rw [← hW]
  clear hW
  go_wp2_with (go_at_call 100; have ew : (((k + 1 : Nat) : Int) - 1) = ((k : Nat) : Int) := by omega
               first | rw [ew] | skip
               refine (number_at _ (k + 1) k p L W (HX.out.keep0 GW.out) (by omega) H0.out).mono ?_; rintro e w2 ⟨v2, rfl, f1, f2⟩; obtain ⟨fo, fl, fc, fo2, fl2, fc2, rfl⟩ := f1.shape; obtain ⟨⟨r0, r1, r2, rf⟩, nw⟩ := RES.out w2 f2; have rf0 := rf 0; have rf1 := rf 1; have rf2 := rf 2; have F1 := hide f1; have F2 := hide f2; have NW := hide nw; clear rf f1 f2 nw)
  refine bodyPost_ret (v := .agg #[.bool (rB (p k)), .slice fo fl fc, .slice fo2 fl2 fc2]) (by first | (simp [results, Tryz.results69, go_sem, r0, r1, r2]; done) | (simp [results, Tryz.results69, go_sem, r0, r1, r2]; rfl)) rfl ?_
  exact ⟨_, rfl, FV.other F1.out NW.out gr_three, gr_set (gr_set (gr_set (gr_none GW.out F2.out) _ _ (by simp)) _ _ (by simp)) _ _ (by simp)⟩
theorem pzero_at (x : Value) (n : Nat) (p : Nat → Rat) (L : Nat) (w : World) (hx : Rw w x n p L) :
    Calls Tryz.prog 63 #[x] w fun e w' => e = .returned (.bool (decide (n = 0))) ∧ w' = w := by
  obtain ⟨xo, xc, rfl, hc, hm, hr⟩ := hx
  unfold maxLen at hm
  clear hr
  by_cases h : n = 0
  · have hb : (((n : Nat) : Int) == 0) = true := by simp [h]
    rw [decide_eq_true h]
    clear h
    go_enter Tryz.func63, Tryz.ntmps63
    go_wp2
    go_ret
    exact ⟨by first | rfl | simp [hb], rfl⟩
  · have hb : (((n : Nat) : Int) == 0) = false := beq_eq_false_iff_ne.2 (by omega)
    rw [decide_eq_false h]
    clear h
    go_enter Tryz.func63, Tryz.ntmps63
    go_wp2
    go_ret
    exact ⟨by first | rfl | simp [hb], rfl⟩
theorem entPlus1 : Ent 173 := Go.Proofs.enters_of Tryz.func173 (by kernel_rfl) rfl
theorem plus1_at (bx bY : Nat) (x y : Value) (n m i : Nat) (p q : Nat → Rat) (L : Nat) (w : World) (hcx : w.cell? ⟨bx, 0, none⟩ = some x) (hcy : w.cell? ⟨bY, 0, none⟩ = some y) (hx : Rw w x n p L) (hy : Rw w y m q L) (hi3 : i ≤ 100000) (h0 : ∀ i, n ≤ i → p i = 0) (h1 : ∀ i, m ≤ i → q i = 0) (hL : L ≤ 1000000000000) (hfit : FitW L (p i + q i)) :
    Calls Tryz.prog 173 #[.int .i64 ((i : Nat) : Int), .pointer (some ⟨bx, 0, none⟩), .pointer (some ⟨bY, 0, none⟩)] w fun e w' => FQE w (p i + q i) L e w' := by
  have HX := hide hx
  have HY := hide hy
  have HF := hide hfit
  have H0 := hide h0
  have H1 := hide h1
  obtain ⟨xo, xc, rfl, _, _, _⟩ := hx
  obtain ⟨yo, yc, rfl, _, _, _⟩ := hy
  have hxl := cell_lt hcx
  have hyl := cell_lt hcy
  simp only at hxl hyl
  clear h0 h1 hfit
  obtain ⟨W, hW⟩ : ∃ W, W = w.alloc (Obj.cells #[.bool false, .slice none 0 0, .slice none 0 0] 75) := ⟨_, rfl⟩
  have GW : Hid (w.grownBy W none) := by rw [hW]; exact gr_alloc (gr_refl _ _) _
  have CX : Hid (∀ wx, W.grownBy wx none → wx.cell? ⟨bx, 0, none⟩ = some (.slice xo n xc) ∧ wx.cell? ⟨bY, 0, none⟩ = some (.slice yo m yc)) := by
    intro wx hg
    have hg2 := gr_none GW.out hg
    exact ⟨hg2.cell hcx (by simp), hg2.cell hcy (by simp)⟩
  have RES : Hid (∀ wx, W.grownBy wx none → (wx.cell? ⟨w.heap.size, 0, none⟩ = some (.bool false) ∧ wx.cell? ⟨w.heap.size, 1, none⟩ = some (.slice none 0 0) ∧ wx.cell? ⟨w.heap.size, 2, none⟩ = some (.slice none 0 0) ∧ ∀ i, wx.frozen? ⟨w.heap.size, i, none⟩ = false) ∧ NoWords wx w.heap.size) := by
    intro wx hg
    rw [hW] at hg
    exact ⟨res_cells hg, noWords_res hg⟩
  clear hcx hcy
  have GG : W.grownBy W none := gr_refl _ _
  obtain ⟨s0, s1⟩ := CX.out W GG
  have n1 : w.heap.size ≠ bx := by omega
  have n2 : w.heap.size ≠ bY := by omega
  go_enter Tryz.func173, Tryz.ntmps173
  go_upto_region 1 with fail
  rw [← hW]
  clear hW
  go_region_held3 (fun w' => w'.cell? ⟨bx, 0, none⟩ = some (.slice xo n xc) ∧ w'.cell? ⟨bY, 0, none⟩ = some (.slice yo m yc)) (go_keep)
    (first
      | (go_at_call_of 100 (Value.slice xo n xc); refine (number_at _ n i p L _ (HX.out.keep0 (gr_none GW.out (by first | exact gr_none GG (gr_d _) | exact gr_none GG gr_d1 | exact GG))) hi3 H0.out).mono ?_; rintro e wa ⟨va, rfl, fa, ga⟩; obtain ⟨ao, al, ac, ao2, al2, ac2, rfl⟩ := fa.shape; have FA := hide fa; (try have FB := hide (FB.out.keep0 (by first | exact gr_none (gr_d _) ga | exact gr_none gr_d1 ga | exact ga))); have GG : W.grownBy wa none := gr_none (by first | exact gr_none GG (gr_d _) | exact gr_none GG gr_d1 | exact GG) ga; obtain ⟨a0, a1⟩ := CX.out wa GG; clear fa ga)
      | (go_at_call_of 100 (Value.slice yo m yc); refine (number_at _ m i q L _ (HY.out.keep0 (gr_none GW.out (by first | exact gr_none GG (gr_d _) | exact gr_none GG gr_d1 | exact GG))) hi3 H1.out).mono ?_; rintro e wb ⟨vb, rfl, fb, gb⟩; obtain ⟨bo, bl, bc, bo2, bl2, bc2, rfl⟩ := fb.shape; have FB := hide fb; (try have FA := hide (FA.out.keep0 (by first | exact gr_none (gr_d _) gb | exact gr_none gr_d1 gb | exact gb))); have GG : W.grownBy wb none := gr_none (by first | exact gr_none GG (gr_d _) | exact gr_none GG gr_d1 | exact GG) gb; obtain ⟨b0, b1⟩ := CX.out wb GG; clear fb gb)
      | (go_at_call 122; refine (qPlus_at _ _ (p i) (q i) L L _ (FA.out.keep0 (by first | exact gr_d _ | exact gr_d1 | exact gr_refl _ _)) (FB.out.keep0 (by first | exact gr_d _ | exact gr_d1 | exact gr_refl _ _)) (by omega)).mono ?_; rintro e wf ⟨v6, rfl, f1, f2⟩; obtain ⟨fo, fl, fc, fo2, fl2, fc2, rfl⟩ := f1.shape; have GG : W.grownBy wf none := gr_none (by first | exact gr_none GG (gr_d _) | exact gr_none GG gr_d1 | exact GG) f2; obtain ⟨e0, e1⟩ := CX.out wf GG; obtain ⟨⟨r0, r1, r2, rf⟩, nw⟩ := RES.out wf GG; have rf0 := rf 0; have rf1 := rf 1; have rf2 := rf 2; clear rf))
  all_goals
    have F1 := hide (f1.tight HF.out)
    have NW := hide nw
    have HG := hide GG
    clear f1 f2 nw
    go_wp2
    refine bodyPost_ret (v := .agg #[.bool (rB (p i + q i)), .slice fo fl fc, .slice fo2 fl2 fc2]) (by first | (simp [results, Tryz.results173, go_sem, r0, r1, r2]; done) | (simp [results, Tryz.results173, go_sem, r0, r1, r2]; rfl)) rfl ?_
    exact ⟨_, rfl, FV.other F1.out NW.out gr_three, gr_set (gr_set (gr_set (gr_none GW.out HG.out) _ _ (by simp)) _ _ (by simp)) _ _ (by simp)⟩
theorem pplus_at (x y : Value) (n m : Nat) (p q : Nat → Rat) (L : Nat) (w : World) (hx : Rw w x n p L) (hy : Rw w y m q L) (hn : n ≤ 3000) (hm3 : m ≤ 3000) (h0 : ∀ i, n ≤ i → p i = 0) (h1 : ∀ i, m ≤ i → q i = 0) (hL : L ≤ 1000000000000) (hfit : ∀ i, FitW L (p i + q i)) :
    Calls Tryz.prog 144 #[x, y] w fun e w' => PolE w (fun i => p i + q i) L e w' := by
  have HX := hide hx
  have HY := hide hy
  have HF := hide hfit
  have H0 := hide h0
  have H1 := hide h1
  obtain ⟨xo, xc, rfl, hc, hm, _⟩ := hx
  obtain ⟨yo, yc, rfl, hc', hm', _⟩ := hy
  unfold maxLen at hm hm'
  clear h0 h1 hfit
  obtain ⟨W, hW⟩ : ∃ W, W = (w.alloc (Obj.cells #[.slice xo n xc] 63)).alloc (Obj.cells #[.slice yo m yc] 63) := ⟨_, rfl⟩
  have GW : Hid (w.grownBy W none) := by rw [hW]; exact gr_alloc (gr_alloc (gr_refl _ _) _) _
  have CX : Hid (W.cell? ⟨w.heap.size, 0, none⟩ = some (.slice xo n xc) ∧ W.cell? ⟨w.heap.size + 1, 0, none⟩ = some (.slice yo m yc)) := by
    rw [hW]
    exact ⟨by go_simp, by go_simp⟩
  obtain ⟨s0, s1⟩ := CX.out
  obtain ⟨N, hN⟩ : ∃ N, N = max n m := ⟨_, rfl⟩
  have hmax : max ((n : Nat) : Int) ((m : Nat) : Int) = ((N : Nat) : Int) := by omega
  have HN : Hid (n ≤ N ∧ m ≤ N ∧ N ≤ 3000) := by show _ ∧ _ ∧ _; omega
  clear hN
  go_enter Tryz.func144, Tryz.ntmps144
  go_upto_region 1 with fail
  rw [← hW]
  clear hW
  go_wp2_with fail
  try rw [hmax]
  clear hmax
  refine (filled_pol N 173 #[] #[.pointer (some ⟨w.heap.size, 0, none⟩), .pointer (some ⟨w.heap.size + 1, 0, none⟩)] (fun i => p i + q i) L W entPlus1 HN.out.2.2 (fun i hi => by have := HN.out; show p i + q i = 0; rw [H0.out i (by omega), H1.out i (by omega)]; exact Rat.add_zero 0) ?_).mono ?_
  · intro i hi wx hg
    have hg2 := gr_none GW.out hg
    have := HN.out
    obtain ⟨t0, t1⟩ := CX.out
    exact (plus1_at _ _ _ _ n m i p q L wx (hg.cell t0 (by simp)) (hg.cell t1 (by simp)) (HX.out.keep0 hg2) (HY.out.keep0 hg2) (by omega) H0.out H1.out hL (HF.out i)).mono (fun _ _ h => h)
  · rintro e w2 ⟨v, k, rfl, h1, h2, h3⟩
    obtain ⟨ao, c, rfl, k1, k2, k3⟩ := h1
    have K3 := hide k3
    have K2 := hide k2
    have H2 := hide h2
    have H3 := hide h3
    clear k3 k2 h2 h3 s0 s1
    go_wp2
    go_ret
    exact ⟨_, k, rfl, ⟨ao, c, rfl, k1, K2.out, K3.out⟩, H2.out, gr_none GW.out H3.out⟩
theorem pminus_at (x y : Value) (n m : Nat) (p q : Nat → Rat) (L : Nat) (w : World) (hx : Rw w x n p L) (hy : Rw w y m q L) (hn : n ≤ 3000) (hm3 : m ≤ 3000) (h0 : ∀ i, n ≤ i → p i = 0) (h1 : PL q m) (hL : L ≤ 1000000000000) (hfit : ∀ i, FitW L (p i - q i)) :
    Calls Tryz.prog 104 #[x, y] w fun e w' => PolE w (fun i => p i - q i) L e w' := by
  have HX := hide hx
  have HY := hide hy
  have HF := hide hfit
  have H0 := hide h0
  have H1 := hide h1
  obtain ⟨xo, xc, rfl, hc, hm, _⟩ := hx
  obtain ⟨yo, yc, rfl, hc', hm', _⟩ := hy
  clear h0 h1 hfit
  go_enter Tryz.func104, Tryz.ntmps104
  go_wp2_with fail
  refine (popp_at _ m q L w HY.out hm3 H1.out.1).mono ?_
  rintro e w2 ⟨v, k, rfl, h1, h2, h3⟩
  have hk : k = m := PL_uniq h2 ⟨fun i hi => by show -q i = 0; rw [H1.out.1 i hi]; rfl, fun h e => H1.out.2 h (by have e' : -q (m - 1) = 0 := e; grind)⟩
  subst hk
  have V1 := hide h1
  obtain ⟨ao, c, rfl, k1, k2, k3⟩ := h1
  have K3 := hide h3
  clear k3 h3 h2
  go_wp2_with fail
  refine (pplus_at _ _ n k p (fun i => -q i) L w2 (HX.out.keep0 K3.out) V1.out hn hm3 H0.out (fun i hi => by show -q i = 0; rw [H1.out.1 i hi]; rfl) hL (fun i => by show FitW L (p i + -q i); rw [← Rat.sub_eq_add_neg]; exact HF.out i)).mono ?_
  rintro e w4 ⟨v4, k4, rfl, h4, h5, h6⟩
  obtain ⟨ao4, c4, rfl, k5, k6, k7⟩ := h4
  have K7 := hide k7
  have K6 := hide k6
  have H5 := hide h5
  have H6 := hide h6
  clear k6 k7 h5 h6
  go_wp2
  go_ret
  have e9 : (fun i => p i + -q i) = fun i => p i - q i := by funext i; rw [Rat.sub_eq_add_neg]
  refine ⟨_, k4, rfl, ?_, ?_, gr_none K3.out H6.out⟩
  · rw [← e9]; exact ⟨ao4, c4, rfl, k5, K6.out, K7.out⟩
  · rw [← e9]; exact H5.out
end Go.Proofs.YtklkpkkjakllfaaGreatDoor
