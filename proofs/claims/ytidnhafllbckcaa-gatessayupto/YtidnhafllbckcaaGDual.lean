/- gates: dual, Dual. -/
import Derived.Test.YtidnhafllbckcaaGWayP
import Derived.Test.YtidnhafllbckcaaGTable
import Derived.Deep.RegionHeld3
import Derived.Deep.DeepCutAuto
namespace Go.Proofs.Ytidnhafllbckcaa
open Go.RowKit
set_option linter.unusedVariables false
set_option linter.unusedSimpArgs false

/-- De Morgan's. -/
def dualE : (n : Nat) → Ex n → Ex n
  | 0, t => t
  | n + 1, t => if t.1 = 1 then (1, t.2.1, !t.2.2.1, []) else ((if t.1 = 2 then 3 else 2), 0, false, t.2.2.2.map (dualE n))

theorem dualE_one (n : Nat) (t : Ex (n + 1)) (h : t.1 = 1) : dualE (n + 1) t = (1, t.2.1, !t.2.2.1, []) := if_pos h
theorem dualE_two (n : Nat) (t : Ex (n + 1)) (h : t.1 ≠ 1) : dualE (n + 1) t = ((if t.1 = 2 then 3 else 2), 0, false, t.2.2.2.map (dualE n)) := if_neg h

/-- No list is longer than 40. -/
def BndE : (n : Nat) → Ex n → Prop
  | 0, _ => False
  | n + 1, t => t.2.2.2.length ≤ 40 ∧ ∀ u ∈ t.2.2.2, BndE n u

theorem cntL_grows {α : Type} (f : α → Nat → Nat × Int) (hf : ∀ t a, (f t a).2 = 0 → a + 1 ≤ (f t a).1) : ∀ (l : List α) (a : Nat), (cntL f l a).2 = 0 → a + l.length ≤ (cntL f l a).1
  | [], a, _ => by simp [cntL]
  | t :: r, a, h => by
    unfold cntL at h ⊢
    split at h
    · rename_i h0
      rw [if_pos h0]
      have h1 := hf t a h0
      have h2 := cntL_grows f hf r _ h
      simp only [List.length_cons]
      omega
    · rename_i h0
      exact absurd h h0

theorem countE_grows (k : Int) : ∀ (n : Nat) (t : Ex n) (a : Nat), (countE k n t a).2 = 0 → a + 1 ≤ (countE k n t a).1
  | 0, t, _, _ => t.elim
  | n + 1, t, a, h => by
    unfold countE at h ⊢
    split at h
    · rename_i hw
      rw [if_pos hw]
      split at h
      · simp at h
      · rename_i h40
        rw [if_neg h40]
        have := cntL_grows _ (countE_grows k n) _ _ h
        omega
    · rename_i hw
      exact absurd h hw

theorem cntL_allB {α : Type} (f : α → Nat → Nat × Int) (hf : ∀ t a, a ≤ 40 → (f t a).1 ≤ 40) : ∀ (l : List α) (a : Nat), a ≤ 40 → (cntL f l a).2 = 0 → ∀ u ∈ l, ∃ m, m ≤ 40 ∧ (f u m).2 = 0
  | [], _, _, _, u, hu => by cases hu
  | t :: r, a, ha, h, u, hu => by
    unfold cntL at h
    split at h
    · rename_i h0
      rcases List.mem_cons.1 hu with rfl | hu
      · exact ⟨a, ha, h0⟩
      · exact cntL_allB f hf r _ (hf t a ha) h u hu
    · rename_i h0
      exact absurd h h0

theorem bnd_of (k : Int) : ∀ (n : Nat) (t : Ex n) (a : Nat), a ≤ 40 → (countE k n t a).2 = 0 → BndE n t
  | 0, t, _, _, _ => t.elim
  | n + 1, t, a, ha, h => by
    unfold countE at h
    split at h
    · split at h
      · simp at h
      · have h1 := cntL_grows _ (countE_grows k n) _ _ h
        have h2 := cntL_le _ (countE_le k n) t.2.2.2 (a + 1) (by omega)
        refine ⟨by omega, fun u hu => ?_⟩
        obtain ⟨m, hm, hc⟩ := cntL_allB _ (countE_le k n) _ _ (by omega) h u hu
        exact bnd_of k n u m hm hc
    · rename_i hw
      exact absurd h hw

theorem check_bnd {n : Nat} {t : Ex n} {k : Int} (h : checkE n t k = 0) : BndE n t := by
  unfold checkE at h
  split at h
  · simp at h
  · exact bnd_of _ _ _ _ (by omega) h

/-- What a call answers that makes an expression. -/
def MadeE (w : World) (n : Nat) (t : Ex n) (e : Ending) (w' : World) : Prop := ∃ c0 c1 c2 c3, e = .returned (.agg #[c0, c1, c2, c3]) ∧ WayP w' (fun b => w.heap.size ≤ b) n c0 c1 c2 c3 t ∧ w.grownBy w' none

def DuaR (w : World) (n : Nat) (l : List (Ex n)) (p g go : Nat) (pc rc oc : Array Value) (iv : Value) (wr : World) : Prop :=
  ∃ (i : Nat) (cs : Array Value), i ≤ l.length ∧ iv = .int .i64 (i : Nat) ∧ BoxC wr p pc ∧ BoxC wr (p + 1) rc ∧ BoxC wr go oc ∧ BoxC wr g cs ∧ cs.size = l.length * 4 ∧
    RowX wr (fun b => go < b) cs n ((l.take i).map (dualE n)) ∧ w.grownBy wr none

theorem BoxC.set4 {w : World} {b p : Nat} {cs : Array Value} (h : BoxC w b cs) (v0 v1 v2 v3 : Value) : BoxC ((((w.setCell ⟨b, p, none⟩ v0).setCell ⟨b, p + 1, none⟩ v1).setCell ⟨b, p + 2, none⟩ v2).setCell ⟨b, p + 3, none⟩ v3) b ((((cs.setIfInBounds p v0).setIfInBounds (p + 1) v1).setIfInBounds (p + 2) v2).setIfInBounds (p + 3) v3) := (((h.set p v0).set (p + 1) v1).set (p + 2) v2).set (p + 3) v3
theorem BoxC.set4O {w : World} {b b' p : Nat} {cs : Array Value} (h : BoxC w b cs) (hb : b ≠ b') (v0 v1 v2 v3 : Value) : BoxC ((((w.setCell ⟨b', p, none⟩ v0).setCell ⟨b', p + 1, none⟩ v1).setCell ⟨b', p + 2, none⟩ v2).setCell ⟨b', p + 3, none⟩ v3) b cs := (((h.setO p v0 hb).setO (p + 1) v1 hb).setO (p + 2) v2 hb).setO (p + 3) v3 hb
theorem gr_set1 (w : World) (b i : Nat) (v : Value) : w.grownBy (w.setCell ⟨b, i, none⟩ v) (some b) := ⟨rfl, rfl, rfl, by simp, fun k _ hr => heap_setCell_other _ _ _ _ (fun e => hr (by rw [e]))⟩
theorem gr_same {w w1 w2 : World} {r : Option Nat} (h : w.grownBy w1 r) (k : w1.grownBy w2 r) : w.grownBy w2 r := gr_trans h k (fun _ _ e => e) (fun _ _ e => e)
theorem gr_set4 (w : World) (b p : Nat) (v0 v1 v2 v3 : Value) : w.grownBy ((((w.setCell ⟨b, p, none⟩ v0).setCell ⟨b, p + 1, none⟩ v1).setCell ⟨b, p + 2, none⟩ v2).setCell ⟨b, p + 3, none⟩ v3) (some b) :=
  gr_same (gr_same (gr_same (gr_set1 _ _ _ _) (gr_set1 _ _ _ _)) (gr_set1 _ _ _ _)) (gr_set1 _ _ _ _)

theorem BoxC.at4 {w : World} {b p : Nat} {cs : Array Value} (h : BoxC w b cs) (hp : p + 3 < cs.size) : ∃ x0 x1 x2 x3, w.cell? ⟨b, p, none⟩ = some x0 ∧ w.cell? ⟨b, p + 1, none⟩ = some x1 ∧ w.cell? ⟨b, p + 2, none⟩ = some x2 ∧ w.cell? ⟨b, p + 3, none⟩ = some x3 ∧ w.frozen? ⟨b, p, none⟩ = false ∧ w.frozen? ⟨b, p + 1, none⟩ = false ∧ w.frozen? ⟨b, p + 2, none⟩ = false ∧ w.frozen? ⟨b, p + 3, none⟩ = false :=
  ⟨cs[p], cs[p + 1], cs[p + 2], cs[p + 3], by rw [h.cell]; simp, by rw [h.cell]; simp, by rw [h.cell]; simp, by rw [h.cell]; simp, h.fro _, h.fro _, h.fro _, h.fro _⟩

set_option maxHeartbeats 8000000 in
set_option maxRecDepth 10000 in
theorem dual_at (k : Int) : ∀ (n : Nat) (t : Ex n) (c0 c1 c2 c3 : Value) (w : World), WayC w n c0 c1 c2 c3 t → FineE k n t → BndE n t →
    Calls Try.prog 20 #[.agg #[c0, c1, c2, c3]] w fun e w' => MadeE w n (dualE n t) e w' := by
  intro n
  induction n with
  | zero => intro t; exact t.elim
  | succ n ih =>
    intro t c0 c1 c2 c3 w hw hf hbd
    obtain ⟨kd, i, b, l, ao, cap, rfl, rfl, rfl, rfl, rfl, h1, h2, h3⟩ := hw.open
    have HR := hide h3
    have IH := hide ih
    obtain ⟨hw0, hf0⟩ := hf
    obtain ⟨hb0, hb1⟩ := hbd
    have HF := hide hf0
    have HB := hide hb1
    unfold maxLen at h2
    clear hw h3 ih hf0 hb1
    dsimp only at hb0 hw0
    rcases wrong_zero hw0 with ⟨rfl, hl, hi0, hi1⟩ | ⟨hk, hl, rfl, rfl⟩
    · have hd : dualE (n + 1) (1, i, b, l) = (1, i, !b, []) := dualE_one n (1, i, b, l) rfl
      rw [hd]
      clear hd hw0
      go_enter Try.func20, Try.ntmps20
      go_wp2
      refine bodyPost_ret (v := .agg #[.int .i64 1, .int .i64 i, .bool (!b), .slice none 0 0]) (by simp [results, Try.results20, go_sem]) rfl ?_
      refine ⟨_, _, _, _, rfl, ⟨rfl, rfl, rfl, none, 0, rfl, Nat.le_refl _, Nat.zero_le _, fun j h => absurd h (Nat.not_lt_zero _)⟩, ?_⟩
      exact gr_alloc (gr_alloc (gr_refl _ _) _) _
    · obtain ⟨K, hK⟩ : ∃ K : Int, K = if kd = 2 then 3 else 2 := ⟨_, rfl⟩
      have hd : dualE (n + 1) (kd, 0, false, l) = (K, 0, false, l.map (dualE n)) := by
        rw [hK]
        exact dualE_two n (kd, 0, false, l) (by show kd ≠ 1; omega)
      rw [hd]
      clear hd hw0
      obtain ⟨p, hp⟩ : ∃ p, p = w.heap.size := ⟨_, rfl⟩
      obtain ⟨pc, hpc⟩ : ∃ pc : Array Value, pc = #[.int .i64 kd, .int .i64 0, .bool false, .slice ao l.length cap] := ⟨_, rfl⟩
      obtain ⟨W0, hW0⟩ : ∃ W0, W0 = (w.alloc (Obj.cells #[.int .i64 kd, .int .i64 0, .bool false, .slice ao l.length cap] 24)).alloc (Obj.cells #[.int .i64 0, .int .i64 0, .bool false, .slice none 0 0] 24) := ⟨_, rfl⟩
      have g0 : w.grownBy W0 none := by rw [hW0]; exact gr_alloc (gr_alloc (gr_refl _ _) _) _
      have b0 : BoxC W0 w.heap.size pc := by rw [hW0, hpc]; exact (boxNew _ _ _).keep0 (gr_alloc (gr_refl _ _) _)
      have r0 : BoxC W0 (w.heap.size + 1) #[.int .i64 0, .int .i64 0, .bool false, .slice none 0 0] := by rw [hW0]; exact boxNew' _ _ _ _ (by simp)
      have s0 : W0.heap.size = w.heap.size + 2 := by rw [hW0]; simp
      have GW0 := hide g0
      have BP0 := hide b0
      have BR0 := hide r0
      have HKD := hide hK
      clear g0 b0 r0
      have hkd1 : (kd == 1) = false := ne_beq (by omega)
      go_enter Try.func20, Try.ntmps20
      go_wp2_with (at_make; refine wpList_make_w 24 _ _ rfl _ _ 22 rfl Try.underlying22 Try.infoWay _ _ _ _ l.length rfl rfl rfl rfl (by omega) ?_)
      intro w1 cs hcs hbx g1
      rw [← hW0] at g1
      have hs1 := g1.size
      have GW1 := hide (gr_none GW0.out g1)
      have BP1 := hide (BP0.out.keep0 g1)
      have BR1 := hide (BR0.out.keep0 g1)
      have HBX := hide hbx
      have hg1 := hbx.lt
      obtain ⟨g, hg⟩ : ∃ g, g = w.heap.size + 1 + 1 := ⟨_, rfl⟩
      rw [← hg] at HBX ⊢
      have hgp : g = w.heap.size + 2 := by omega
      rw [← hg] at hg1
      have hfz := (BP1.out.f4)
      obtain ⟨p0, p1, p2, p3⟩ := (show BoxC w1 w.heap.size #[.int .i64 kd, .int .i64 0, .bool false, .slice ao l.length cap] by rw [← hpc]; exact BP1.out).c4
      have hne1 : ¬ w1.heap.size = w.heap.size := by omega
      have hne2 : ¬ w.heap.size = w1.heap.size := by omega
      have hlt1 : w.heap.size < w1.heap.size := by omega
      have HGP := hide hgp
      have HPC := hide hpc
      have HCS := hide hcs
      clear hbx g1 hW0 s0 hg hs1 hfz BP0 BR0 GW0 hgp hpc hcs hp
      rcases hk with rfl | rfl
      · have HKV := hide (show K = 3 by have := HKD.out; simpa using this)
        have OC : Hid (BoxC (w1.alloc (Obj.cells #[.int .i64 3, .int .i64 0, .bool false, .slice (some ⟨g, 0, none⟩) l.length l.length] 24)) w1.heap.size #[.int .i64 3, .int .i64 0, .bool false, .slice (some ⟨g, 0, none⟩) l.length l.length]) := boxNew _ _ _
        have gA : Hid (w1.grownBy (w1.alloc (Obj.cells #[.int .i64 3, .int .i64 0, .bool false, .slice (some ⟨g, 0, none⟩) l.length l.length] 24)) none) := gr_alloc (gr_refl _ _) _
        go_wp2
        generalize w1.alloc (Obj.cells #[.int .i64 3, .int .i64 0, .bool false, .slice (some ⟨g, 0, none⟩) l.length l.length] 24) = W2 at *
        have ST : Hid (DuaR w n l w.heap.size g w1.heap.size pc #[.int .i64 0, .int .i64 0, .bool false, .slice none 0 0] #[.int .i64 3, .int .i64 0, .bool false, .slice (some ⟨g, 0, none⟩) l.length l.length] (.int .i64 0) W2) :=
          ⟨0, cs, Nat.zero_le _, rfl, BP1.out.keep0 gA.out, BR1.out.keep0 gA.out, OC.out, HBX.out.keep0 gA.out, HCS.out, fun j h => absurd h (by simp), gr_none GW1.out gA.out⟩
        obtain ⟨go, hgo⟩ : ∃ go, go = w1.heap.size := ⟨_, rfl⟩
        rw [← hgo] at ST hg1 hlt1 ⊢
        have HGP2 : Hid (w.heap.size + 2 = g) := HGP.out.symm
        have hgpp : w.heap.size + 1 < g := by have := HGP.out; omega
        clear OC gA HBX BP1 BR1 GW1 HCS hgo hne1 hne2 p0 p1 p2 p3
        go_loopw [27] (fun iv wr => Hid (DuaR w n l w.heap.size g go pc #[.int .i64 0, .int .i64 0, .bool false, .slice none 0 0] #[.int .i64 3, .int .i64 0, .bool false, .slice (some ⟨g, 0, none⟩) l.length l.length] iv wr)) (fun iv _ => l.length - (intOf iv).toNat)
        case atStart => exact ST.out
        case round =>
          clear ST
          obtain ⟨j, cs, hj, rfl, bp, br, bo, bg, hcs, hrow, hgr⟩ := hrel.out
          have BP := hide bp
          have BR := hide br
          have BO := hide bo
          have BG := hide bg
          have HROW := hide hrow
          have HGR := hide hgr
          have hgs := bg.lt
          have hgos := bo.lt
          clear hrel bp br bo bg hrow hgr
          by_cases hlt : j < l.length
          · obtain ⟨bb, off, rfl, hb, d0, d1, d2, d3, k0, k1, k2, k3, hk⟩ := HR.out j hlt
            have q0 := gr_cell HGR.out k0
            have q1 := gr_cell HGR.out k1
            have q2 := gr_cell HGR.out k2
            have q3 := gr_cell HGR.out k3
            have HK := hide (hk.keep HGR.out)
            obtain ⟨kd2, i2, b2, ao2, len2, cap2, rfl, rfl, rfl, rfl⟩ := hk.cells
            clear k0 k1 k2 k3 hk
            go_upto_region 9 with fail
            have BB : Hid (BoxC (wr.alloc (Obj.cells #[.int .i64 kd2, .int .i64 i2, .bool b2, .slice ao2 len2 cap2] 24)) wr.heap.size #[.int .i64 kd2, .int .i64 i2, .bool b2, .slice ao2 len2 cap2]) := boxNew _ _ _
            have gA : Hid (wr.grownBy (wr.alloc (Obj.cells #[.int .i64 kd2, .int .i64 i2, .bool b2, .slice ao2 len2 cap2] 24)) none) := gr_alloc (gr_refl _ _) _
            have hsA : (wr.alloc (Obj.cells #[.int .i64 kd2, .int .i64 i2, .bool b2, .slice ao2 len2 cap2] 24)).heap.size = wr.heap.size + 1 := by simp
            generalize wr.alloc (Obj.cells #[.int .i64 kd2, .int .i64 i2, .bool b2, .slice ao2 len2 cap2] 24) = WA at *
            have BX : Hid (∀ wx, WA.grownBy wx none → BoxC wx wr.heap.size #[.int .i64 kd2, .int .i64 i2, .bool b2, .slice ao2 len2 cap2] ∧ BoxC wx go #[.int .i64 3, .int .i64 0, .bool false, .slice (some ⟨g, 0, none⟩) l.length l.length] ∧ BoxC wx g cs) := fun wx hg => ⟨BB.out.keep0 hg, (BO.out.keep0 gA.out).keep0 hg, (BG.out.keep0 gA.out).keep0 hg⟩
            have hj4 : j * 4 + 3 < cs.size := by omega
            have ng1 : ¬ go = g := by omega
            have ng2 : ¬ g = go := by omega
            have ng3 : ¬ wr.heap.size = g := by omega
            have ng4 : ¬ g = wr.heap.size := by omega
            have GG : WA.grownBy WA none := gr_refl _ _
            obtain ⟨z0, z1, z2, z3⟩ := (BX.out WA GG).1.c4
            obtain ⟨o0, o1, o2, o3⟩ := (BX.out WA GG).2.1.c4
            obtain ⟨x0, x1, x2, x3, m0, m1, m2, m3, fx0, fx1, fx2, fx3⟩ := (BX.out WA GG).2.2.at4 hj4
            have HSA := hide hsA
            have HH := hide (HK.out.keep gA.out)
            have hltz : (j : Int) < (l.length : Int) := by omega
            clear hsA HK q0 q1 q2 q3 o0 o1 o2
            go_region_held3 (fun w' => w'.cell? ⟨go, 3, none⟩ = some (.slice (some ⟨g, 0, none⟩) l.length l.length) ∧ w'.cell? ⟨wr.heap.size, 0, none⟩ = some (.int .i64 kd2) ∧ w'.cell? ⟨wr.heap.size, 1, none⟩ = some (.int .i64 i2) ∧ w'.cell? ⟨wr.heap.size, 2, none⟩ = some (.bool b2) ∧ w'.cell? ⟨wr.heap.size, 3, none⟩ = some (.slice ao2 len2 cap2)) (go_keep)
              (first | (go_at_call 20; refine (IH.out (l[j]) _ _ _ _ _ (HH.out.keep (by first | exact gr_none GG (gr_drewN (gr_refl _ _) _) | exact gr_none GG (gr_drew (gr_refl _ _)) | exact GG)) (HF.out _ (List.getElem_mem hlt)) (HB.out _ (List.getElem_mem hlt))).mono ?_; rintro e wa ⟨a0, a1, a2, a3, rfl, ha, ga⟩; obtain ⟨ak, ai, ab, aao, alen, acap, rfl, rfl, rfl, rfl⟩ := ha.way.cells; have HA := hide ha; have GG : WA.grownBy wa none := gr_none (by first | exact gr_none GG (gr_drewN (gr_refl _ _) _) | exact gr_none GG (gr_drew (gr_refl _ _)) | exact GG) ga; obtain ⟨y0, y1, y2, y3⟩ := (BX.out wa GG).1.c4; obtain ⟨v0, v1, v2, v3⟩ := (BX.out wa GG).2.1.c4; obtain ⟨x0, x1, x2, x3, n0, n1, n2, n3, fy0, fy1, fy2, fy3⟩ := (BX.out wa GG).2.2.at4 hj4))
            all_goals
              have GX := hide GG
              have HS4 := hide (gr_set4 wa g (j * 4) (.int .i64 ak) (.int .i64 ai) (.bool ab) (.slice aao alen acap))
              clear GG
              go_wp2
              go_roundw
              case rel =>
                have hga := gr_none gA.out GX.out
                have hrow1 := HROW.out.keep (ok' := fun b => go < b) hga (fun b _ hb => ⟨by simp, hb⟩)
                have ha1 := HA.out.keep (ok' := fun b => go < b) (gr_refl wa none) (fun b _ hb => ⟨by simp, by have h : WA.heap.size ≤ b := hb; have := HSA.out; omega⟩)
                have hlen : ((l.take j).map (dualE n)).length = j := by simp; omega
                have hput := hrow1.put (by rw [hlen]; exact hj4) ha1
                rw [hlen] at hput
                have hl2 : (l.take (j + 1)).map (dualE n) = (l.take j).map (dualE n) ++ [dualE n (l[j])] := by
                  rw [List.take_succ_eq_append_getElem hlt, List.map_append]
                  rfl
                refine ⟨j + 1, _, by omega, by go_num, (BP.out.keep0 hga).keepO HS4.out (fun e => by have := Option.some.inj e; omega), (BR.out.keep0 hga).keepO HS4.out (fun e => by have := Option.some.inj e; omega), (BO.out.keep0 hga).keepO HS4.out (fun e => by have := Option.some.inj e; omega), (BG.out.keep0 hga).set4 _ _ _ _, by simp [hcs], ?_, gr_in (gr_none HGR.out hga) HS4.out (by omega)⟩
                rw [hl2]
                exact hput.keep HS4.out (fun b _ hb => ⟨fun e => by have := Option.some.inj e; omega, hb⟩)
              case measure => simp [intOf]; omega
          · obtain rfl : j = l.length := by omega
            obtain ⟨o0, o1, o2, o3⟩ := BO.out.c4
            obtain ⟨r0, r1, r2, r3⟩ := BR.out.c4
            obtain ⟨f0, f1, f2, f3⟩ := BR.out.f4
            have HG4 := hide (gr_set4 wr (w.heap.size + 1) 0 (.int .i64 3) (.int .i64 0) (.bool false) (.slice (some ⟨g, 0, none⟩) l.length l.length))
            go_wp2
            refine bodyPost_ret (v := .agg #[.int .i64 3, .int .i64 0, .bool false, .slice (some ⟨g, 0, none⟩) l.length l.length]) (by simp [results, Try.results20, go_sem, r0, r1, r2, r3]) rfl ?_
            rw [HKV.out]
            have hlm : (l.map (dualE n)).length = l.length := by simp
            have hrow := HROW.out
            rw [List.take_length] at hrow
            have hr2 := hrow.keep (ok' := fun b => w.heap.size ≤ b) HG4.out (fun b _ hb => ⟨fun e => by have := Option.some.inj e; omega, by omega⟩)
            have hb2 := BG.out.keepO HG4.out (fun e => by have := Option.some.inj e; omega)
            have := RowX.slice (k := 3) (i := 0) (b := false) (cap := l.length) hr2 hb2 (by omega) (by omega) (by unfold maxLen; omega)
            rw [hlm] at this
            exact ⟨_, _, _, _, rfl, this, gr_in HGR.out HG4.out (by omega)⟩
      · have HKV := hide (show K = 2 by have := HKD.out; simpa using this)
        have OC : Hid (BoxC (w1.alloc (Obj.cells #[.int .i64 2, .int .i64 0, .bool false, .slice (some ⟨g, 0, none⟩) l.length l.length] 24)) w1.heap.size #[.int .i64 2, .int .i64 0, .bool false, .slice (some ⟨g, 0, none⟩) l.length l.length]) := boxNew _ _ _
        have gA : Hid (w1.grownBy (w1.alloc (Obj.cells #[.int .i64 2, .int .i64 0, .bool false, .slice (some ⟨g, 0, none⟩) l.length l.length] 24)) none) := gr_alloc (gr_refl _ _) _
        go_wp2
        generalize w1.alloc (Obj.cells #[.int .i64 2, .int .i64 0, .bool false, .slice (some ⟨g, 0, none⟩) l.length l.length] 24) = W2 at *
        have ST : Hid (DuaR w n l w.heap.size g w1.heap.size pc #[.int .i64 0, .int .i64 0, .bool false, .slice none 0 0] #[.int .i64 2, .int .i64 0, .bool false, .slice (some ⟨g, 0, none⟩) l.length l.length] (.int .i64 0) W2) :=
          ⟨0, cs, Nat.zero_le _, rfl, BP1.out.keep0 gA.out, BR1.out.keep0 gA.out, OC.out, HBX.out.keep0 gA.out, HCS.out, fun j h => absurd h (by simp), gr_none GW1.out gA.out⟩
        obtain ⟨go, hgo⟩ : ∃ go, go = w1.heap.size := ⟨_, rfl⟩
        rw [← hgo] at ST hg1 hlt1 ⊢
        have HGP2 : Hid (w.heap.size + 2 = g) := HGP.out.symm
        have hgpp : w.heap.size + 1 < g := by have := HGP.out; omega
        clear OC gA HBX BP1 BR1 GW1 HCS hgo hne1 hne2 p0 p1 p2 p3
        go_loopw [27] (fun iv wr => Hid (DuaR w n l w.heap.size g go pc #[.int .i64 0, .int .i64 0, .bool false, .slice none 0 0] #[.int .i64 2, .int .i64 0, .bool false, .slice (some ⟨g, 0, none⟩) l.length l.length] iv wr)) (fun iv _ => l.length - (intOf iv).toNat)
        case atStart => exact ST.out
        case round =>
          clear ST
          obtain ⟨j, cs, hj, rfl, bp, br, bo, bg, hcs, hrow, hgr⟩ := hrel.out
          have BP := hide bp
          have BR := hide br
          have BO := hide bo
          have BG := hide bg
          have HROW := hide hrow
          have HGR := hide hgr
          have hgs := bg.lt
          have hgos := bo.lt
          clear hrel bp br bo bg hrow hgr
          by_cases hlt : j < l.length
          · obtain ⟨bb, off, rfl, hb, d0, d1, d2, d3, k0, k1, k2, k3, hk⟩ := HR.out j hlt
            have q0 := gr_cell HGR.out k0
            have q1 := gr_cell HGR.out k1
            have q2 := gr_cell HGR.out k2
            have q3 := gr_cell HGR.out k3
            have HK := hide (hk.keep HGR.out)
            obtain ⟨kd2, i2, b2, ao2, len2, cap2, rfl, rfl, rfl, rfl⟩ := hk.cells
            clear k0 k1 k2 k3 hk
            go_upto_region 9 with fail
            have BB : Hid (BoxC (wr.alloc (Obj.cells #[.int .i64 kd2, .int .i64 i2, .bool b2, .slice ao2 len2 cap2] 24)) wr.heap.size #[.int .i64 kd2, .int .i64 i2, .bool b2, .slice ao2 len2 cap2]) := boxNew _ _ _
            have gA : Hid (wr.grownBy (wr.alloc (Obj.cells #[.int .i64 kd2, .int .i64 i2, .bool b2, .slice ao2 len2 cap2] 24)) none) := gr_alloc (gr_refl _ _) _
            have hsA : (wr.alloc (Obj.cells #[.int .i64 kd2, .int .i64 i2, .bool b2, .slice ao2 len2 cap2] 24)).heap.size = wr.heap.size + 1 := by simp
            generalize wr.alloc (Obj.cells #[.int .i64 kd2, .int .i64 i2, .bool b2, .slice ao2 len2 cap2] 24) = WA at *
            have BX : Hid (∀ wx, WA.grownBy wx none → BoxC wx wr.heap.size #[.int .i64 kd2, .int .i64 i2, .bool b2, .slice ao2 len2 cap2] ∧ BoxC wx go #[.int .i64 2, .int .i64 0, .bool false, .slice (some ⟨g, 0, none⟩) l.length l.length] ∧ BoxC wx g cs) := fun wx hg => ⟨BB.out.keep0 hg, (BO.out.keep0 gA.out).keep0 hg, (BG.out.keep0 gA.out).keep0 hg⟩
            have hj4 : j * 4 + 3 < cs.size := by omega
            have ng1 : ¬ go = g := by omega
            have ng2 : ¬ g = go := by omega
            have ng3 : ¬ wr.heap.size = g := by omega
            have ng4 : ¬ g = wr.heap.size := by omega
            have GG : WA.grownBy WA none := gr_refl _ _
            obtain ⟨z0, z1, z2, z3⟩ := (BX.out WA GG).1.c4
            obtain ⟨o0, o1, o2, o3⟩ := (BX.out WA GG).2.1.c4
            obtain ⟨x0, x1, x2, x3, m0, m1, m2, m3, fx0, fx1, fx2, fx3⟩ := (BX.out WA GG).2.2.at4 hj4
            have HSA := hide hsA
            have HH := hide (HK.out.keep gA.out)
            have hltz : (j : Int) < (l.length : Int) := by omega
            clear hsA HK q0 q1 q2 q3 o0 o1 o2
            go_region_held3 (fun w' => w'.cell? ⟨go, 3, none⟩ = some (.slice (some ⟨g, 0, none⟩) l.length l.length) ∧ w'.cell? ⟨wr.heap.size, 0, none⟩ = some (.int .i64 kd2) ∧ w'.cell? ⟨wr.heap.size, 1, none⟩ = some (.int .i64 i2) ∧ w'.cell? ⟨wr.heap.size, 2, none⟩ = some (.bool b2) ∧ w'.cell? ⟨wr.heap.size, 3, none⟩ = some (.slice ao2 len2 cap2)) (go_keep)
              (first | (go_at_call 20; refine (IH.out (l[j]) _ _ _ _ _ (HH.out.keep (by first | exact gr_none GG (gr_drewN (gr_refl _ _) _) | exact gr_none GG (gr_drew (gr_refl _ _)) | exact GG)) (HF.out _ (List.getElem_mem hlt)) (HB.out _ (List.getElem_mem hlt))).mono ?_; rintro e wa ⟨a0, a1, a2, a3, rfl, ha, ga⟩; obtain ⟨ak, ai, ab, aao, alen, acap, rfl, rfl, rfl, rfl⟩ := ha.way.cells; have HA := hide ha; have GG : WA.grownBy wa none := gr_none (by first | exact gr_none GG (gr_drewN (gr_refl _ _) _) | exact gr_none GG (gr_drew (gr_refl _ _)) | exact GG) ga; obtain ⟨y0, y1, y2, y3⟩ := (BX.out wa GG).1.c4; obtain ⟨v0, v1, v2, v3⟩ := (BX.out wa GG).2.1.c4; obtain ⟨x0, x1, x2, x3, n0, n1, n2, n3, fy0, fy1, fy2, fy3⟩ := (BX.out wa GG).2.2.at4 hj4))
            all_goals
              have GX := hide GG
              have HS4 := hide (gr_set4 wa g (j * 4) (.int .i64 ak) (.int .i64 ai) (.bool ab) (.slice aao alen acap))
              clear GG
              go_wp2
              go_roundw
              case rel =>
                have hga := gr_none gA.out GX.out
                have hrow1 := HROW.out.keep (ok' := fun b => go < b) hga (fun b _ hb => ⟨by simp, hb⟩)
                have ha1 := HA.out.keep (ok' := fun b => go < b) (gr_refl wa none) (fun b _ hb => ⟨by simp, by have h : WA.heap.size ≤ b := hb; have := HSA.out; omega⟩)
                have hlen : ((l.take j).map (dualE n)).length = j := by simp; omega
                have hput := hrow1.put (by rw [hlen]; exact hj4) ha1
                rw [hlen] at hput
                have hl2 : (l.take (j + 1)).map (dualE n) = (l.take j).map (dualE n) ++ [dualE n (l[j])] := by
                  rw [List.take_succ_eq_append_getElem hlt, List.map_append]
                  rfl
                refine ⟨j + 1, _, by omega, by go_num, (BP.out.keep0 hga).keepO HS4.out (fun e => by have := Option.some.inj e; omega), (BR.out.keep0 hga).keepO HS4.out (fun e => by have := Option.some.inj e; omega), (BO.out.keep0 hga).keepO HS4.out (fun e => by have := Option.some.inj e; omega), (BG.out.keep0 hga).set4 _ _ _ _, by simp [hcs], ?_, gr_in (gr_none HGR.out hga) HS4.out (by omega)⟩
                rw [hl2]
                exact hput.keep HS4.out (fun b _ hb => ⟨fun e => by have := Option.some.inj e; omega, hb⟩)
              case measure => simp [intOf]; omega
          · obtain rfl : j = l.length := by omega
            obtain ⟨o0, o1, o2, o3⟩ := BO.out.c4
            obtain ⟨r0, r1, r2, r3⟩ := BR.out.c4
            obtain ⟨f0, f1, f2, f3⟩ := BR.out.f4
            have HG4 := hide (gr_set4 wr (w.heap.size + 1) 0 (.int .i64 2) (.int .i64 0) (.bool false) (.slice (some ⟨g, 0, none⟩) l.length l.length))
            go_wp2
            refine bodyPost_ret (v := .agg #[.int .i64 2, .int .i64 0, .bool false, .slice (some ⟨g, 0, none⟩) l.length l.length]) (by simp [results, Try.results20, go_sem, r0, r1, r2, r3]) rfl ?_
            rw [HKV.out]
            have hlm : (l.map (dualE n)).length = l.length := by simp
            have hrow := HROW.out
            rw [List.take_length] at hrow
            have hr2 := hrow.keep (ok' := fun b => w.heap.size ≤ b) HG4.out (fun b _ hb => ⟨fun e => by have := Option.some.inj e; omega, by omega⟩)
            have hb2 := BG.out.keepO HG4.out (fun e => by have := Option.some.inj e; omega)
            have := RowX.slice (k := 2) (i := 0) (b := false) (cap := l.length) hr2 hb2 (by omega) (by omega) (by unfold maxLen; omega)
            rw [hlm] at this
            exact ⟨_, _, _, _, rfl, this, gr_in HGR.out HG4.out (by omega)⟩

/-- What Dual answers: an expression, or what is wrong. -/
def DualE (w : World) (n : Nat) (t : Ex n) (k : Int) (e : Ending) (w' : World) : Prop :=
  (checkE n t k ≠ 0 ∧ e = .returned (.tuple #[.agg #[.int .i64 0, .int .i64 0, .bool false, .slice none 0 0], .int .i64 (checkE n t k)]) ∧ w.grownBy w' none)
  ∨ (checkE n t k = 0 ∧ ∃ c0 c1 c2 c3, e = .returned (.tuple #[.agg #[c0, c1, c2, c3], .int .i64 0]) ∧ WayC w' n c0 c1 c2 c3 (dualE n t) ∧ w.grownBy w' none)

set_option maxHeartbeats 4000000 in
set_option maxRecDepth 10000 in
theorem dualOf_at (n : Nat) (t : Ex n) (c0 c1 c2 c3 : Value) (k : Int) (w : World) (hw : WayC w n c0 c1 c2 c3 t) :
    Calls Try.prog 8 #[.agg #[c0, c1, c2, c3], .int .i64 k] w fun e w' => DualE w n t k e w' := by
  have HW := hide hw
  obtain ⟨kd, i, b, ao, len, cap, rfl, rfl, rfl, rfl⟩ := hw.cells
  clear hw
  obtain ⟨W0, hW0⟩ : ∃ W0, W0 = (w.alloc (Obj.cells #[.int .i64 kd, .int .i64 i, .bool b, .slice ao len cap] 24)).alloc (Obj.cells #[.int .i64 0, .int .i64 0, .bool false, .slice none 0 0] 24) := ⟨_, rfl⟩
  have GW0 := hide (show w.grownBy W0 none by rw [hW0]; exact gr_alloc (gr_alloc (gr_refl _ _) _) _)
  have BP0 := hide (show BoxC W0 w.heap.size #[.int .i64 kd, .int .i64 i, .bool b, .slice ao len cap] by rw [hW0]; exact (boxNew _ _ _).keep0 (gr_alloc (gr_refl _ _) _))
  have BR0 := hide (show BoxC W0 (w.heap.size + 1) #[.int .i64 0, .int .i64 0, .bool false, .slice none 0 0] by rw [hW0]; exact boxNew' _ _ _ _ (by simp))
  obtain ⟨x, hx⟩ : ∃ x, x = checkE n t k := ⟨_, rfl⟩
  have HC := hide hx
  clear hx
  go_enter Try.func8, Try.ntmps8
  go_wp2_with fail
  rw [← hW0]
  clear hW0
  refine (check_at k n t _ _ _ _ _ (HW.out.keep GW0.out)).mono ?_
  rintro e w1 ⟨rfl, g1⟩
  rw [← HC.out]
  have G1 := hide (gr_none GW0.out g1)
  have BP1 := hide (BP0.out.keep0 g1)
  have BR1 := hide (BR0.out.keep0 g1)
  obtain ⟨p0, p1, p2, p3⟩ := BP1.out.c4
  obtain ⟨r0, r1, r2, r3⟩ := BR1.out.c4
  obtain ⟨f0, f1, f2, f3⟩ := BR1.out.f4
  clear g1
  by_cases hz : x = 0
  · subst hz
    obtain ⟨hk0, hk6, hfine⟩ := check_zero HC.out.symm
    have HFI := hide hfine
    have HBN := hide (check_bnd HC.out.symm)
    clear hfine
    go_wp2_with fail
    refine (dual_at k n t _ _ _ _ _ (HW.out.keep G1.out) HFI.out HBN.out).mono ?_
    rintro e w2 ⟨a0, a1, a2, a3, rfl, ha, g2⟩
    have HA := hide ha
    obtain ⟨ak, ai, ab, aao, alen, acap, rfl, rfl, rfl, rfl⟩ := ha.way.cells
    have G2 := hide (gr_none G1.out g2)
    have BR2 := hide (BR1.out.keep0 g2)
    obtain ⟨y0, y1, y2, y3⟩ := BR2.out.c4
    obtain ⟨e0, e1, e2, e3⟩ := BR2.out.f4
    have hl1 := BR1.out.lt
    have HG4 := hide (gr_set4 w2 (w.heap.size + 1) 0 (.int .i64 ak) (.int .i64 ai) (.bool ab) (.slice aao alen acap))
    clear g2 ha p0 p1 p2 p3 r0 r1 r2 r3 f0 f1 f2 f3
    go_wp2
    refine bodyPost_ret (v := .tuple #[.agg #[.int .i64 ak, .int .i64 ai, .bool ab, .slice aao alen acap], .int .i64 0]) (by simp [results, Try.results8, go_sem, y0, y1, y2, y3]) rfl ?_
    exact .inr ⟨HC.out.symm, _, _, _, _, rfl, (HA.out.keep (ok' := fun _ => True) HG4.out (fun b _ hb => ⟨fun e => by have := Option.some.inj e; have h : w1.heap.size ≤ b := hb; omega, trivial⟩)).way, gr_in G2.out HG4.out (by omega)⟩
  · have hz' := ne_beq hz
    have HZ := hide hz
    clear hz
    have HG4 := hide (gr_set4 w1 (w.heap.size + 1) 0 (.int .i64 0) (.int .i64 0) (.bool false) (.slice none 0 0))
    go_wp2
    refine bodyPost_ret (v := .tuple #[.agg #[.int .i64 0, .int .i64 0, .bool false, .slice none 0 0], .int .i64 x]) (by simp [results, Try.results8, go_sem, r0, r1, r2, r3]) rfl ?_
    rw [DualE, ← HC.out]
    exact .inl ⟨HZ.out, rfl, gr_in G1.out HG4.out (by omega)⟩
end Go.Proofs.Ytidnhafllbckcaa
