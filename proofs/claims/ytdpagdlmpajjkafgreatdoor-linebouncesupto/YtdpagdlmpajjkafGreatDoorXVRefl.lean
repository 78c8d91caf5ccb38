/- line: Reflect, Ends. -/
import Derived.Test.YtdpagdlmpajjkafGreatDoorXVEnd
namespace Go.Proofs.YtdpagdlmpajjkafGreatDoor
open Go.RowKit
set_option linter.unusedVariables false
set_option linter.unusedSimpArgs false
def rfC (p q l : Rat) : Int := if 0 < l then (if p + l = 0 ∧ q = 0 then 9 else 0) else 5
def rfR (p q l : Rat) : Rat := cdR (p - l) q (p + l) q
def rfI (p q l : Rat) : Rat := cdI (p - l) q (p + l) q
def enC (p q l : Rat) : Int := if 0 < l then (if p = 1 ∧ q = 0 then 9 else 0) else 5
def enR (p q l : Rat) : Rat := cdR (1 + p) q (1 - p) (-q) * l
def enI (p q l : Rat) : Rat := cdI (1 + p) q (1 - p) (-q) * l
def txZ (c : Int) (x y : Rat) : Value := if c = 0 then .agg #[.string ⟨(qtext x).toArray⟩, .string ⟨(qtext y).toArray⟩] else .agg #[.string ⟨#[]⟩, .string ⟨#[]⟩]
theorem LinE.good {w : World} {q : Rat} {L : Nat} {e : Ending} {w' : World} (h : LinE w q L e w') (hq : 0 < q) : w.grownBy w' none ∧ ∃ (k : Bool) (o1 : Option Addr) (l1 c1 : Nat) (o2 : Option Addr) (l2 c2 : Nat), e = .returned (.tuple #[.agg #[.bool k, .slice o1 l1 c1, .slice o2 l2 c2], .int .i64 0]) ∧ FQ w' (.agg #[.bool k, .slice o1 l1 c1, .slice o2 l2 c2]) q L := by
  obtain ⟨g, ⟨_, h1⟩ | ⟨h1, _⟩⟩ := h
  · exact ⟨g, h1⟩
  · exact absurd hq h1
theorem LinE.ill {w : World} {q : Rat} {L : Nat} {e : Ending} {w' : World} (h : LinE w q L e w') (hq : ¬ 0 < q) : e = .returned (.tuple #[.agg #[.bool false, .slice none 0 0, .slice none 0 0], .int .i64 5]) ∧ w.grownBy w' none := by
  obtain ⟨g, ⟨h1, _⟩ | ⟨_, h1⟩⟩ := h
  · exact absurd h1 hq
  · exact ⟨h1, g⟩
theorem EnE.good {w : World} {bad : Prop} {p q : Rat} {L : Nat} {e : Ending} {w' : World} (h : EnE w bad p q L e w') (hb : ¬ bad) : ∃ v, e = .returned (.tuple #[v, .int .i64 0]) ∧ ZQ w' v p q L ∧ w.grownBy w' none := by
  obtain ⟨g, v, c, h1, ⟨h2, _⟩ | ⟨_, rfl, h3⟩⟩ := h
  · exact absurd h2 hb
  · exact ⟨v, h1, h3, g⟩
theorem EnE.ill {w : World} {bad : Prop} {p q : Rat} {L : Nat} {e : Ending} {w' : World} (h : EnE w bad p q L e w') (hb : bad) : ∃ v, e = .returned (.tuple #[v, .int .i64 9]) ∧ ZQ w' v 0 0 L ∧ w.grownBy w' none := by
  obtain ⟨g, v, c, h1, ⟨_, rfl, h3⟩ | ⟨h2, _⟩⟩ := h
  · exact ⟨v, h1, h3, g⟩
  · exact absurd hb h2
set_option maxHeartbeats 16000000 in
set_option maxRecDepth 10000 in
theorem Reflect_at (s t u : ByteArray) (p q l : Rat) (m : Int) (L : Nat) (w : World) (hp : p = ofR s.data.toList) (hq : q = ofR t.data.toList) (hl : l = ofR u.data.toList) (hs : s.size ≤ 600000000) (ht : t.size ≤ 600000000) (hu : u.size ≤ 600000000) (fp : FitW L p) (fq : FitW L q) (fl : FitW L l) (hL : L ≤ 1000000000) (hml : w.cell? ⟨0, 0, none⟩ = some (.int .i64 m)) (htab : Tab10 w) :
    Calls Tryz.prog 21 #[.agg #[.string s, .string t], .string u] w fun e w' => e = .returned (.tuple #[txZ (rfC p q l) (rfR p q l) (rfI p q l), .int .i64 (rfC p q l)]) ∧ w.grownBy w' none := by
  have HP := hide hp
  have HQ := hide hq
  have HL := hide hl
  have F1 := hide (hp ▸ fp)
  have F2 := hide (hq ▸ fq)
  have F3 := hide fl
  have HM := hide hml
  have HT := hide htab
  clear hp hq hl fp fq fl hml htab
  obtain ⟨W, hW⟩ : ∃ W, W = ((w.alloc (Obj.cells #[.string s, .string t] 46)).alloc (Obj.cells #[.string ⟨#[]⟩, .string ⟨#[]⟩] 46)) := ⟨_, rfl⟩
  have GW : Hid (w.grownBy W none) := by rw [hW]; exact gr_alloc (gr_alloc (gr_refl _ _) _) _
  have BX : Hid (∀ wx, W.grownBy wx none → BoxC wx (w.heap.size) #[.string s, .string t]) := by
    intro wx hg
    rw [hW] at hg
    have h0 := (boxNew' w #[.string s, .string t] 46 (w.heap.size) (by simp))
    exact ((h0).keep0 (gr_alloc (gr_refl _ _) _)).keep0 hg
  have BR : Hid (∀ wx, W.grownBy wx none → BoxC wx (w.heap.size + 1) #[.string ⟨#[]⟩, .string ⟨#[]⟩]) := by
    intro wx hg
    rw [hW] at hg
    have h0 := (boxNew' (w.alloc (Obj.cells #[.string s, .string t] 46)) #[.string ⟨#[]⟩, .string ⟨#[]⟩] 46 (w.heap.size + 1) (by simp))
    exact (h0).keep0 hg
  have hne1_0 : ¬ w.heap.size + 1 = w.heap.size := by omega
  have hnf1_0 : ¬ w.heap.size = w.heap.size + 1 := by omega
  have HWS : Hid (w.heap.size + 1 + 1 ≤ W.heap.size) := by unfold Hid; rw [hW]; simp
  by_cases hl0 : 0 < l
  · by_cases hb : p + l = 0 ∧ q = 0
    · have hc : rfC p q l = 9 := by unfold rfC; rw [if_pos hl0, if_pos hb]
      have hx : txZ (rfC p q l) (rfR p q l) (rfI p q l) = .agg #[.string ⟨#[]⟩, .string ⟨#[]⟩] := by unfold txZ; rw [hc, if_neg (by decide)]
      rw [hx, hc]
      clear hx hc
      have HL0 := hide hl0
      have HB := hide hb
      go_enter Tryz.func21, Tryz.ntmps21
      go_wp2_with fail
      rw [← hW]
      clear hW
      refine (lineOf_at u l m L W HL.out hu F3.out (gr_cell GW.out HM.out)).mono ?_
      rintro e w1 h1
      obtain ⟨g1, lk, lo1, ll1, lc1, lo2, ll2, lc2, rfl, p1⟩ := h1.good HL0.out
      have P1 := hide p1
      have G1 := hide g1
      clear p1 g1 h1
      go_upto_region 4 with fail
      obtain ⟨W2, hW2⟩ : ∃ wz, wz = (w1.alloc (Obj.cells #[.bool lk, .slice lo1 ll1 lc1, .slice lo2 ll2 lc2] 114)) := ⟨_, rfl⟩
      have GW2 : Hid (w1.grownBy W2 none) := by rw [hW2]; exact gr_alloc (gr_refl _ _) _
      have BO : Hid (∀ wx, W2.grownBy wx none → BoxC wx w1.heap.size #[.bool lk, .slice lo1 ll1 lc1, .slice lo2 ll2 lc2]) := by
        intro wx g
        rw [hW2] at g
        exact (boxNew w1 #[.bool lk, .slice lo1 ll1 lc1, .slice lo2 ll2 lc2] 114).keep0 g
      rw [← hW2]
      clear hW2
      have GA := hide (gr_none (gr_none GW.out G1.out) GW2.out)
      have GB := hide (gr_none G1.out GW2.out)
      have B2X : Hid (∀ wx, W2.grownBy wx none → BoxC wx (w.heap.size) #[.string s, .string t]) := fun wx g => BX.out wx (gr_none GB.out g)
      have B2R : Hid (∀ wx, W2.grownBy wx none → BoxC wx (w.heap.size + 1) #[.string ⟨#[]⟩, .string ⟨#[]⟩]) := fun wx g => BR.out wx (gr_none GB.out g)
      have GG : W2.grownBy W2 none := gr_refl _ _
      have hle : w.heap.size + 1 + 1 ≤ w1.heap.size := Nat.le_trans HWS.out G1.out.size
      have hna : ¬ w1.heap.size = w.heap.size + 1 := by omega
      have hnb : ¬ w.heap.size + 1 = w1.heap.size := by omega
      obtain ⟨z0, z1, zf0, zf1⟩ := (B2X.out W2 GG).c2
      obtain ⟨o0, o1, o2, of0, of1, of2⟩ := (BO.out W2 GG).c3
      go_region_held3 (fun w' => w'.cell? ⟨w.heap.size, 0, none⟩ = some (.string s) ∧ w'.cell? ⟨w.heap.size, 1, none⟩ = some (.string t) ∧ w'.cell? ⟨w1.heap.size, 0, none⟩ = some (.bool lk) ∧ w'.cell? ⟨w1.heap.size, 1, none⟩ = some (.slice lo1 ll1 lc1) ∧ w'.cell? ⟨w1.heap.size, 2, none⟩ = some (.slice lo2 ll2 lc2)) (go_keep)
        (first | (go_at_call 75; refine (ofZ_at s t m L _ hs ht F1.out F2.out (gr_cell (gr_none GA.out (by first | exact gr_none GG (gr_d _) | exact gr_none GG gr_d1 | exact GG | exact gr_alloc GG _ | exact gr_alloc (gr_none GG gr_d1) _ | exact gr_alloc (gr_none GG (gr_d _)) _)) HM.out)).mono ?_; rintro e wa ⟨va, rfl, pa, ga⟩; obtain ⟨ak1, ao1, al1, ac1, ao2, al2, ac2, ak2, ao3, al3, ac3, ao4, al4, ac4, rfl, _, _⟩ := pa.letters; have KP := gr_none (by first | exact gr_d _ | exact gr_d1 | exact gr_alloc gr_d1 _ | exact gr_alloc (gr_d _) _ | exact gr_alloc (gr_refl _ _) _ | exact gr_refl _ _) ga; have GG : W2.grownBy wa none := gr_none (by first | exact gr_none GG (gr_d _) | exact gr_none GG gr_d1 | exact GG | exact gr_alloc GG _ | exact gr_alloc (gr_none GG gr_d1) _ | exact gr_alloc (gr_none GG (gr_d _)) _) ga; clear KP; rw [← HP.out, ← HQ.out] at pa; obtain ⟨a_z0, a_z1, a_zf0, a_zf1⟩ := (B2X.out wa GG).c2; obtain ⟨a_o0, a_o1, a_o2, a_of0, a_of1, a_of2⟩ := (BO.out wa GG).c3; obtain ⟨a_r0, a_r1, a_rf0, a_rf1⟩ := (B2R.out wa GG).c2) | (go_at_call 74; refine (back_at _ _ p q l L L _ (pa.keep0 (by first | exact gr_d _ | exact gr_d1 | exact gr_alloc gr_d1 _ | exact gr_alloc (gr_d _) _ | exact gr_alloc (gr_refl _ _) _ | exact gr_refl _ _)) (P1.out.keep0 (gr_none GW2.out (by first | exact gr_none GG (gr_d _) | exact gr_none GG gr_d1 | exact GG | exact gr_alloc GG _ | exact gr_alloc (gr_none GG gr_d1) _ | exact gr_alloc (gr_none GG (gr_d _)) _))) (by omega)).mono ?_; rintro e wb hb; obtain ⟨rfl, gb⟩ := hb.ill HB.out; have KP := gr_none (by first | exact gr_d _ | exact gr_d1 | exact gr_alloc gr_d1 _ | exact gr_alloc (gr_d _) _ | exact gr_alloc (gr_refl _ _) _ | exact gr_refl _ _) gb; have GG : W2.grownBy wb none := gr_none (by first | exact gr_none GG (gr_d _) | exact gr_none GG gr_d1 | exact GG | exact gr_alloc GG _ | exact gr_alloc (gr_none GG gr_d1) _ | exact gr_alloc (gr_none GG (gr_d _)) _) gb; clear KP; obtain ⟨b_z0, b_z1, b_zf0, b_zf1⟩ := (B2X.out wb GG).c2; obtain ⟨b_o0, b_o1, b_o2, b_of0, b_of1, b_of2⟩ := (BO.out wb GG).c3; obtain ⟨b_r0, b_r1, b_rf0, b_rf1⟩ := (B2R.out wb GG).c2) | (go_at_call 73; refine (tell_bad _ 0 0 (1) 9 _ (ZQ.of (fq_zero' _ 1) (fq_zero' _ 1)) (by decide)).mono ?_; rintro e wc ⟨rfl, gc⟩; have KP := gr_none (by first | exact gr_d _ | exact gr_d1 | exact gr_alloc gr_d1 _ | exact gr_alloc (gr_d _) _ | exact gr_alloc (gr_refl _ _) _ | exact gr_refl _ _) gc; have GG : W2.grownBy wc none := gr_none (by first | exact gr_none GG (gr_d _) | exact gr_none GG gr_d1 | exact GG | exact gr_alloc GG _ | exact gr_alloc (gr_none GG gr_d1) _ | exact gr_alloc (gr_none GG (gr_d _)) _) gc; clear KP; obtain ⟨c_z0, c_z1, c_zf0, c_zf1⟩ := (B2X.out wc GG).c2; obtain ⟨c_o0, c_o1, c_o2, c_of0, c_of1, c_of2⟩ := (BO.out wc GG).c3; obtain ⟨c_r0, c_r1, c_rf0, c_rf1⟩ := (B2R.out wc GG).c2))
      all_goals
        have HGd := hide GG
        go_wp2
        refine bodyPost_ret (v := .tuple #[.agg #[.string ⟨#[]⟩, .string ⟨#[]⟩], .int .i64 9]) (by first | (simp [results, Tryz.results21, go_sem, c_r0, c_r1]; done) | (simp [results, Tryz.results21, go_sem, c_r0, c_r1]; rfl)) rfl ?_
        exact ⟨rfl, gr_set (gr_set (gr_none GA.out HGd.out) _ _ (by first | (simp; done) | (simp; omega))) _ _ (by first | (simp; done) | (simp; omega))⟩
    · have hc : rfC p q l = 0 := by unfold rfC; rw [if_pos hl0, if_neg hb]
      have hx : txZ (rfC p q l) (rfR p q l) (rfI p q l) = .agg #[.string ⟨(qtext (rfR p q l)).toArray⟩, .string ⟨(qtext (rfI p q l)).toArray⟩] := by unfold txZ; rw [hc, if_pos rfl]
      rw [hx, hc]
      clear hx hc
      have HL0 := hide hl0
      have HB := hide hb
      go_enter Tryz.func21, Tryz.ntmps21
      go_wp2_with fail
      rw [← hW]
      clear hW
      refine (lineOf_at u l m L W HL.out hu F3.out (gr_cell GW.out HM.out)).mono ?_
      rintro e w1 h1
      obtain ⟨g1, lk, lo1, ll1, lc1, lo2, ll2, lc2, rfl, p1⟩ := h1.good HL0.out
      have P1 := hide p1
      have G1 := hide g1
      clear p1 g1 h1
      go_upto_region 4 with fail
      obtain ⟨W2, hW2⟩ : ∃ wz, wz = (w1.alloc (Obj.cells #[.bool lk, .slice lo1 ll1 lc1, .slice lo2 ll2 lc2] 114)) := ⟨_, rfl⟩
      have GW2 : Hid (w1.grownBy W2 none) := by rw [hW2]; exact gr_alloc (gr_refl _ _) _
      have BO : Hid (∀ wx, W2.grownBy wx none → BoxC wx w1.heap.size #[.bool lk, .slice lo1 ll1 lc1, .slice lo2 ll2 lc2]) := by
        intro wx g
        rw [hW2] at g
        exact (boxNew w1 #[.bool lk, .slice lo1 ll1 lc1, .slice lo2 ll2 lc2] 114).keep0 g
      rw [← hW2]
      clear hW2
      have GA := hide (gr_none (gr_none GW.out G1.out) GW2.out)
      have GB := hide (gr_none G1.out GW2.out)
      have B2X : Hid (∀ wx, W2.grownBy wx none → BoxC wx (w.heap.size) #[.string s, .string t]) := fun wx g => BX.out wx (gr_none GB.out g)
      have B2R : Hid (∀ wx, W2.grownBy wx none → BoxC wx (w.heap.size + 1) #[.string ⟨#[]⟩, .string ⟨#[]⟩]) := fun wx g => BR.out wx (gr_none GB.out g)
      have GG : W2.grownBy W2 none := gr_refl _ _
      have hle : w.heap.size + 1 + 1 ≤ w1.heap.size := Nat.le_trans HWS.out G1.out.size
      have hna : ¬ w1.heap.size = w.heap.size + 1 := by omega
      have hnb : ¬ w.heap.size + 1 = w1.heap.size := by omega
      obtain ⟨z0, z1, zf0, zf1⟩ := (B2X.out W2 GG).c2
      obtain ⟨o0, o1, o2, of0, of1, of2⟩ := (BO.out W2 GG).c3
      go_region_held3 (fun w' => w'.cell? ⟨w.heap.size, 0, none⟩ = some (.string s) ∧ w'.cell? ⟨w.heap.size, 1, none⟩ = some (.string t) ∧ w'.cell? ⟨w1.heap.size, 0, none⟩ = some (.bool lk) ∧ w'.cell? ⟨w1.heap.size, 1, none⟩ = some (.slice lo1 ll1 lc1) ∧ w'.cell? ⟨w1.heap.size, 2, none⟩ = some (.slice lo2 ll2 lc2)) (go_keep)
        (first | (go_at_call 75; refine (ofZ_at s t m L _ hs ht F1.out F2.out (gr_cell (gr_none GA.out (by first | exact gr_none GG (gr_d _) | exact gr_none GG gr_d1 | exact GG | exact gr_alloc GG _ | exact gr_alloc (gr_none GG gr_d1) _ | exact gr_alloc (gr_none GG (gr_d _)) _)) HM.out)).mono ?_; rintro e wa ⟨va, rfl, pa, ga⟩; obtain ⟨ak1, ao1, al1, ac1, ao2, al2, ac2, ak2, ao3, al3, ac3, ao4, al4, ac4, rfl, _, _⟩ := pa.letters; have KP := gr_none (by first | exact gr_d _ | exact gr_d1 | exact gr_alloc gr_d1 _ | exact gr_alloc (gr_d _) _ | exact gr_alloc (gr_refl _ _) _ | exact gr_refl _ _) ga; have GG : W2.grownBy wa none := gr_none (by first | exact gr_none GG (gr_d _) | exact gr_none GG gr_d1 | exact GG | exact gr_alloc GG _ | exact gr_alloc (gr_none GG gr_d1) _ | exact gr_alloc (gr_none GG (gr_d _)) _) ga; clear KP; rw [← HP.out, ← HQ.out] at pa; obtain ⟨a_z0, a_z1, a_zf0, a_zf1⟩ := (B2X.out wa GG).c2; obtain ⟨a_o0, a_o1, a_o2, a_of0, a_of1, a_of2⟩ := (BO.out wa GG).c3; obtain ⟨a_r0, a_r1, a_rf0, a_rf1⟩ := (B2R.out wa GG).c2) | (go_at_call 74; refine (back_at _ _ p q l L L _ (pa.keep0 (by first | exact gr_d _ | exact gr_d1 | exact gr_alloc gr_d1 _ | exact gr_alloc (gr_d _) _ | exact gr_alloc (gr_refl _ _) _ | exact gr_refl _ _)) (P1.out.keep0 (gr_none GW2.out (by first | exact gr_none GG (gr_d _) | exact gr_none GG gr_d1 | exact GG | exact gr_alloc GG _ | exact gr_alloc (gr_none GG gr_d1) _ | exact gr_alloc (gr_none GG (gr_d _)) _))) (by omega)).mono ?_; rintro e wb hb; obtain ⟨vb, rfl, pb, gb⟩ := hb.good HB.out; obtain ⟨bk1, bo1, bl1, bc1, bo2, bl2, bc2, bk2, bo3, bl3, bc3, bo4, bl4, bc4, rfl, _, _⟩ := pb.letters; have KP := gr_none (by first | exact gr_d _ | exact gr_d1 | exact gr_alloc gr_d1 _ | exact gr_alloc (gr_d _) _ | exact gr_alloc (gr_refl _ _) _ | exact gr_refl _ _) gb; have GG : W2.grownBy wb none := gr_none (by first | exact gr_none GG (gr_d _) | exact gr_none GG gr_d1 | exact GG | exact gr_alloc GG _ | exact gr_alloc (gr_none GG gr_d1) _ | exact gr_alloc (gr_none GG (gr_d _)) _) gb; clear KP; obtain ⟨b_z0, b_z1, b_zf0, b_zf1⟩ := (B2X.out wb GG).c2; obtain ⟨b_o0, b_o1, b_o2, b_of0, b_of1, b_of2⟩ := (BO.out wb GG).c3; obtain ⟨b_r0, b_r1, b_rf0, b_rf1⟩ := (B2R.out wb GG).c2) | (go_at_call 73; refine (tell_ok _ (rfR p q l) (rfI p q l) (8 * (L + L) + 26) _ (pb.keep0 (by first | exact gr_d _ | exact gr_d1 | exact gr_alloc gr_d1 _ | exact gr_alloc (gr_d _) _ | exact gr_alloc (gr_refl _ _) _ | exact gr_refl _ _)) (by omega) (HT.out.keep0 (gr_none GA.out (by first | exact gr_none GG (gr_d _) | exact gr_none GG gr_d1 | exact GG | exact gr_alloc GG _ | exact gr_alloc (gr_none GG gr_d1) _ | exact gr_alloc (gr_none GG (gr_d _)) _)))).mono ?_; rintro e wc ⟨rfl, gc⟩; have KP := gr_none (by first | exact gr_d _ | exact gr_d1 | exact gr_alloc gr_d1 _ | exact gr_alloc (gr_d _) _ | exact gr_alloc (gr_refl _ _) _ | exact gr_refl _ _) gc; have GG : W2.grownBy wc none := gr_none (by first | exact gr_none GG (gr_d _) | exact gr_none GG gr_d1 | exact GG | exact gr_alloc GG _ | exact gr_alloc (gr_none GG gr_d1) _ | exact gr_alloc (gr_none GG (gr_d _)) _) gc; clear KP; obtain ⟨c_z0, c_z1, c_zf0, c_zf1⟩ := (B2X.out wc GG).c2; obtain ⟨c_o0, c_o1, c_o2, c_of0, c_of1, c_of2⟩ := (BO.out wc GG).c3; obtain ⟨c_r0, c_r1, c_rf0, c_rf1⟩ := (B2R.out wc GG).c2))
      all_goals
        have HGd := hide GG
        go_wp2
        refine bodyPost_ret (v := .tuple #[.agg #[.string ⟨(qtext (rfR p q l)).toArray⟩, .string ⟨(qtext (rfI p q l)).toArray⟩], .int .i64 0]) (by first | (simp [results, Tryz.results21, go_sem, c_r0, c_r1]; done) | (simp [results, Tryz.results21, go_sem, c_r0, c_r1]; rfl)) rfl ?_
        exact ⟨rfl, gr_set (gr_set (gr_none GA.out HGd.out) _ _ (by first | (simp; done) | (simp; omega))) _ _ (by first | (simp; done) | (simp; omega))⟩
  · have hc : rfC p q l = 5 := by unfold rfC; rw [if_neg hl0]
    have hx : txZ (rfC p q l) (rfR p q l) (rfI p q l) = .agg #[.string ⟨#[]⟩, .string ⟨#[]⟩] := by unfold txZ; rw [hc, if_neg (by decide)]
    rw [hx, hc]
    clear hx hc
    have HL0 := hide hl0
    go_enter Tryz.func21, Tryz.ntmps21
    go_wp2_with fail
    rw [← hW]
    clear hW
    refine (lineOf_at u l m L W HL.out hu F3.out (gr_cell GW.out HM.out)).mono ?_
    rintro e w1 h1
    obtain ⟨rfl, g1⟩ := h1.ill HL0.out
    have G1 := hide g1
    clear g1 h1
    go_upto_region 3 with fail
    obtain ⟨W2, hW2⟩ : ∃ wz, wz = (w1.alloc (Obj.cells #[.bool false, .slice none 0 0, .slice none 0 0] 114)) := ⟨_, rfl⟩
    have GW2 : Hid (w1.grownBy W2 none) := by rw [hW2]; exact gr_alloc (gr_refl _ _) _
    have BO : Hid (∀ wx, W2.grownBy wx none → BoxC wx w1.heap.size #[.bool false, .slice none 0 0, .slice none 0 0]) := by
      intro wx g
      rw [hW2] at g
      exact (boxNew w1 #[.bool false, .slice none 0 0, .slice none 0 0] 114).keep0 g
    rw [← hW2]
    clear hW2
    obtain ⟨r0, r1, rf0, rf1⟩ := (BR.out W2 (gr_none G1.out GW2.out)).c2
    have GA := hide (gr_none (gr_none GW.out G1.out) GW2.out)
    go_wp2
    refine bodyPost_ret (v := .tuple #[.agg #[.string ⟨#[]⟩, .string ⟨#[]⟩], .int .i64 5]) (by first | (simp [results, Tryz.results21, go_sem, r0, r1]; done) | (simp [results, Tryz.results21, go_sem, r0, r1]; rfl)) rfl ?_
    exact ⟨rfl, gr_set (gr_set (GA.out) _ _ (by first | (simp; done) | (simp; omega))) _ _ (by first | (simp; done) | (simp; omega))⟩
set_option maxHeartbeats 16000000 in
set_option maxRecDepth 10000 in
theorem Ends_at (s t u : ByteArray) (p q l : Rat) (m : Int) (L : Nat) (w : World) (hp : p = ofR s.data.toList) (hq : q = ofR t.data.toList) (hl : l = ofR u.data.toList) (hs : s.size ≤ 600000000) (ht : t.size ≤ 600000000) (hu : u.size ≤ 600000000) (fp : FitW L p) (fq : FitW L q) (fl : FitW L l) (hL : L ≤ 1000000000) (hml : w.cell? ⟨0, 0, none⟩ = some (.int .i64 m)) (htab : Tab10 w) :
    Calls Tryz.prog 25 #[.agg #[.string s, .string t], .string u] w fun e w' => e = .returned (.tuple #[txZ (enC p q l) (enR p q l) (enI p q l), .int .i64 (enC p q l)]) ∧ w.grownBy w' none := by
  have HP := hide hp
  have HQ := hide hq
  have HL := hide hl
  have F1 := hide (hp ▸ fp)
  have F2 := hide (hq ▸ fq)
  have F3 := hide fl
  have HM := hide hml
  have HT := hide htab
  clear hp hq hl fp fq fl hml htab
  obtain ⟨W, hW⟩ : ∃ W, W = ((w.alloc (Obj.cells #[.string s, .string t] 46)).alloc (Obj.cells #[.string ⟨#[]⟩, .string ⟨#[]⟩] 46)) := ⟨_, rfl⟩
  have GW : Hid (w.grownBy W none) := by rw [hW]; exact gr_alloc (gr_alloc (gr_refl _ _) _) _
  have BX : Hid (∀ wx, W.grownBy wx none → BoxC wx (w.heap.size) #[.string s, .string t]) := by
    intro wx hg
    rw [hW] at hg
    have h0 := (boxNew' w #[.string s, .string t] 46 (w.heap.size) (by simp))
    exact ((h0).keep0 (gr_alloc (gr_refl _ _) _)).keep0 hg
  have BR : Hid (∀ wx, W.grownBy wx none → BoxC wx (w.heap.size + 1) #[.string ⟨#[]⟩, .string ⟨#[]⟩]) := by
    intro wx hg
    rw [hW] at hg
    have h0 := (boxNew' (w.alloc (Obj.cells #[.string s, .string t] 46)) #[.string ⟨#[]⟩, .string ⟨#[]⟩] 46 (w.heap.size + 1) (by simp))
    exact (h0).keep0 hg
  have hne1_0 : ¬ w.heap.size + 1 = w.heap.size := by omega
  have hnf1_0 : ¬ w.heap.size = w.heap.size + 1 := by omega
  have HWS : Hid (w.heap.size + 1 + 1 ≤ W.heap.size) := by unfold Hid; rw [hW]; simp
  by_cases hl0 : 0 < l
  · by_cases hb : p = 1 ∧ q = 0
    · have hc : enC p q l = 9 := by unfold enC; rw [if_pos hl0, if_pos hb]
      have hx : txZ (enC p q l) (enR p q l) (enI p q l) = .agg #[.string ⟨#[]⟩, .string ⟨#[]⟩] := by unfold txZ; rw [hc, if_neg (by decide)]
      rw [hx, hc]
      clear hx hc
      have HL0 := hide hl0
      have HB := hide hb
      go_enter Tryz.func25, Tryz.ntmps25
      go_wp2_with fail
      rw [← hW]
      clear hW
      refine (lineOf_at u l m L W HL.out hu F3.out (gr_cell GW.out HM.out)).mono ?_
      rintro e w1 h1
      obtain ⟨g1, lk, lo1, ll1, lc1, lo2, ll2, lc2, rfl, p1⟩ := h1.good HL0.out
      have P1 := hide p1
      have G1 := hide g1
      clear p1 g1 h1
      go_upto_region 4 with fail
      obtain ⟨W2, hW2⟩ : ∃ wz, wz = (w1.alloc (Obj.cells #[.bool lk, .slice lo1 ll1 lc1, .slice lo2 ll2 lc2] 114)) := ⟨_, rfl⟩
      have GW2 : Hid (w1.grownBy W2 none) := by rw [hW2]; exact gr_alloc (gr_refl _ _) _
      have BO : Hid (∀ wx, W2.grownBy wx none → BoxC wx w1.heap.size #[.bool lk, .slice lo1 ll1 lc1, .slice lo2 ll2 lc2]) := by
        intro wx g
        rw [hW2] at g
        exact (boxNew w1 #[.bool lk, .slice lo1 ll1 lc1, .slice lo2 ll2 lc2] 114).keep0 g
      rw [← hW2]
      clear hW2
      have GA := hide (gr_none (gr_none GW.out G1.out) GW2.out)
      have GB := hide (gr_none G1.out GW2.out)
      have B2X : Hid (∀ wx, W2.grownBy wx none → BoxC wx (w.heap.size) #[.string s, .string t]) := fun wx g => BX.out wx (gr_none GB.out g)
      have B2R : Hid (∀ wx, W2.grownBy wx none → BoxC wx (w.heap.size + 1) #[.string ⟨#[]⟩, .string ⟨#[]⟩]) := fun wx g => BR.out wx (gr_none GB.out g)
      have GG : W2.grownBy W2 none := gr_refl _ _
      have hle : w.heap.size + 1 + 1 ≤ w1.heap.size := Nat.le_trans HWS.out G1.out.size
      have hna : ¬ w1.heap.size = w.heap.size + 1 := by omega
      have hnb : ¬ w.heap.size + 1 = w1.heap.size := by omega
      obtain ⟨z0, z1, zf0, zf1⟩ := (B2X.out W2 GG).c2
      obtain ⟨o0, o1, o2, of0, of1, of2⟩ := (BO.out W2 GG).c3
      go_region_held3 (fun w' => w'.cell? ⟨w.heap.size, 0, none⟩ = some (.string s) ∧ w'.cell? ⟨w.heap.size, 1, none⟩ = some (.string t) ∧ w'.cell? ⟨w1.heap.size, 0, none⟩ = some (.bool lk) ∧ w'.cell? ⟨w1.heap.size, 1, none⟩ = some (.slice lo1 ll1 lc1) ∧ w'.cell? ⟨w1.heap.size, 2, none⟩ = some (.slice lo2 ll2 lc2)) (go_keep)
        (first | (go_at_call 75; refine (ofZ_at s t m L _ hs ht F1.out F2.out (gr_cell (gr_none GA.out (by first | exact gr_none GG (gr_d _) | exact gr_none GG gr_d1 | exact GG | exact gr_alloc GG _ | exact gr_alloc (gr_none GG gr_d1) _ | exact gr_alloc (gr_none GG (gr_d _)) _)) HM.out)).mono ?_; rintro e wa ⟨va, rfl, pa, ga⟩; obtain ⟨ak1, ao1, al1, ac1, ao2, al2, ac2, ak2, ao3, al3, ac3, ao4, al4, ac4, rfl, _, _⟩ := pa.letters; have KP := gr_none (by first | exact gr_d _ | exact gr_d1 | exact gr_alloc gr_d1 _ | exact gr_alloc (gr_d _) _ | exact gr_alloc (gr_refl _ _) _ | exact gr_refl _ _) ga; have GG : W2.grownBy wa none := gr_none (by first | exact gr_none GG (gr_d _) | exact gr_none GG gr_d1 | exact GG | exact gr_alloc GG _ | exact gr_alloc (gr_none GG gr_d1) _ | exact gr_alloc (gr_none GG (gr_d _)) _) ga; clear KP; rw [← HP.out, ← HQ.out] at pa; obtain ⟨a_z0, a_z1, a_zf0, a_zf1⟩ := (B2X.out wa GG).c2; obtain ⟨a_o0, a_o1, a_o2, a_of0, a_of1, a_of2⟩ := (BO.out wa GG).c3; obtain ⟨a_r0, a_r1, a_rf0, a_rf1⟩ := (B2R.out wa GG).c2) | (go_at_call 77; refine (end_at _ _ p q l L L _ (pa.keep0 (by first | exact gr_d _ | exact gr_d1 | exact gr_alloc gr_d1 _ | exact gr_alloc (gr_d _) _ | exact gr_alloc (gr_refl _ _) _ | exact gr_refl _ _)) (P1.out.keep0 (gr_none GW2.out (by first | exact gr_none GG (gr_d _) | exact gr_none GG gr_d1 | exact GG | exact gr_alloc GG _ | exact gr_alloc (gr_none GG gr_d1) _ | exact gr_alloc (gr_none GG (gr_d _)) _))) (by omega)).mono ?_; rintro e wb hb1; obtain ⟨vb, rfl, pb, gb⟩ := hb1.ill HB.out; obtain ⟨bk1, bo1, bl1, bc1, bo2, bl2, bc2, bk2, bo3, bl3, bc3, bo4, bl4, bc4, rfl, _, _⟩ := pb.letters; have KP := gr_none (by first | exact gr_d _ | exact gr_d1 | exact gr_alloc gr_d1 _ | exact gr_alloc (gr_d _) _ | exact gr_alloc (gr_refl _ _) _ | exact gr_refl _ _) gb; have GG : W2.grownBy wb none := gr_none (by first | exact gr_none GG (gr_d _) | exact gr_none GG gr_d1 | exact GG | exact gr_alloc GG _ | exact gr_alloc (gr_none GG gr_d1) _ | exact gr_alloc (gr_none GG (gr_d _)) _) gb; clear KP; obtain ⟨b_z0, b_z1, b_zf0, b_zf1⟩ := (B2X.out wb GG).c2; obtain ⟨b_o0, b_o1, b_o2, b_of0, b_of1, b_of2⟩ := (BO.out wb GG).c3; obtain ⟨b_r0, b_r1, b_rf0, b_rf1⟩ := (B2R.out wb GG).c2) | (go_at_call 73; refine (tell_bad _ 0 0 (16 * L + 2 * L + 80) 9 _ ((pb.keep0 (by first | exact gr_d _ | exact gr_d1 | exact gr_alloc gr_d1 _ | exact gr_alloc (gr_d _) _ | exact gr_alloc (gr_refl _ _) _ | exact gr_refl _ _))) (by decide)).mono ?_; rintro e wc ⟨rfl, gc⟩; have KP := gr_none (by first | exact gr_d _ | exact gr_d1 | exact gr_alloc gr_d1 _ | exact gr_alloc (gr_d _) _ | exact gr_alloc (gr_refl _ _) _ | exact gr_refl _ _) gc; have GG : W2.grownBy wc none := gr_none (by first | exact gr_none GG (gr_d _) | exact gr_none GG gr_d1 | exact GG | exact gr_alloc GG _ | exact gr_alloc (gr_none GG gr_d1) _ | exact gr_alloc (gr_none GG (gr_d _)) _) gc; clear KP; obtain ⟨c_z0, c_z1, c_zf0, c_zf1⟩ := (B2X.out wc GG).c2; obtain ⟨c_o0, c_o1, c_o2, c_of0, c_of1, c_of2⟩ := (BO.out wc GG).c3; obtain ⟨c_r0, c_r1, c_rf0, c_rf1⟩ := (B2R.out wc GG).c2))
      all_goals
        have HGd := hide GG
        go_wp2
        refine bodyPost_ret (v := .tuple #[.agg #[.string ⟨#[]⟩, .string ⟨#[]⟩], .int .i64 9]) (by first | (simp [results, Tryz.results25, go_sem, c_r0, c_r1]; done) | (simp [results, Tryz.results25, go_sem, c_r0, c_r1]; rfl)) rfl ?_
        exact ⟨rfl, gr_set (gr_set (gr_none GA.out HGd.out) _ _ (by first | (simp; done) | (simp; omega))) _ _ (by first | (simp; done) | (simp; omega))⟩
    · have hc : enC p q l = 0 := by unfold enC; rw [if_pos hl0, if_neg hb]
      have hx : txZ (enC p q l) (enR p q l) (enI p q l) = .agg #[.string ⟨(qtext (enR p q l)).toArray⟩, .string ⟨(qtext (enI p q l)).toArray⟩] := by unfold txZ; rw [hc, if_pos rfl]
      rw [hx, hc]
      clear hx hc
      have HL0 := hide hl0
      have HB := hide hb
      go_enter Tryz.func25, Tryz.ntmps25
      go_wp2_with fail
      rw [← hW]
      clear hW
      refine (lineOf_at u l m L W HL.out hu F3.out (gr_cell GW.out HM.out)).mono ?_
      rintro e w1 h1
      obtain ⟨g1, lk, lo1, ll1, lc1, lo2, ll2, lc2, rfl, p1⟩ := h1.good HL0.out
      have P1 := hide p1
      have G1 := hide g1
      clear p1 g1 h1
      go_upto_region 4 with fail
      obtain ⟨W2, hW2⟩ : ∃ wz, wz = (w1.alloc (Obj.cells #[.bool lk, .slice lo1 ll1 lc1, .slice lo2 ll2 lc2] 114)) := ⟨_, rfl⟩
      have GW2 : Hid (w1.grownBy W2 none) := by rw [hW2]; exact gr_alloc (gr_refl _ _) _
      have BO : Hid (∀ wx, W2.grownBy wx none → BoxC wx w1.heap.size #[.bool lk, .slice lo1 ll1 lc1, .slice lo2 ll2 lc2]) := by
        intro wx g
        rw [hW2] at g
        exact (boxNew w1 #[.bool lk, .slice lo1 ll1 lc1, .slice lo2 ll2 lc2] 114).keep0 g
      rw [← hW2]
      clear hW2
      have GA := hide (gr_none (gr_none GW.out G1.out) GW2.out)
      have GB := hide (gr_none G1.out GW2.out)
      have B2X : Hid (∀ wx, W2.grownBy wx none → BoxC wx (w.heap.size) #[.string s, .string t]) := fun wx g => BX.out wx (gr_none GB.out g)
      have B2R : Hid (∀ wx, W2.grownBy wx none → BoxC wx (w.heap.size + 1) #[.string ⟨#[]⟩, .string ⟨#[]⟩]) := fun wx g => BR.out wx (gr_none GB.out g)
      have GG : W2.grownBy W2 none := gr_refl _ _
      have hle : w.heap.size + 1 + 1 ≤ w1.heap.size := Nat.le_trans HWS.out G1.out.size
      have hna : ¬ w1.heap.size = w.heap.size + 1 := by omega
      have hnb : ¬ w.heap.size + 1 = w1.heap.size := by omega
      obtain ⟨z0, z1, zf0, zf1⟩ := (B2X.out W2 GG).c2
      obtain ⟨o0, o1, o2, of0, of1, of2⟩ := (BO.out W2 GG).c3
      go_region_held3 (fun w' => w'.cell? ⟨w.heap.size, 0, none⟩ = some (.string s) ∧ w'.cell? ⟨w.heap.size, 1, none⟩ = some (.string t) ∧ w'.cell? ⟨w1.heap.size, 0, none⟩ = some (.bool lk) ∧ w'.cell? ⟨w1.heap.size, 1, none⟩ = some (.slice lo1 ll1 lc1) ∧ w'.cell? ⟨w1.heap.size, 2, none⟩ = some (.slice lo2 ll2 lc2)) (go_keep)
        (first | (go_at_call 75; refine (ofZ_at s t m L _ hs ht F1.out F2.out (gr_cell (gr_none GA.out (by first | exact gr_none GG (gr_d _) | exact gr_none GG gr_d1 | exact GG | exact gr_alloc GG _ | exact gr_alloc (gr_none GG gr_d1) _ | exact gr_alloc (gr_none GG (gr_d _)) _)) HM.out)).mono ?_; rintro e wa ⟨va, rfl, pa, ga⟩; obtain ⟨ak1, ao1, al1, ac1, ao2, al2, ac2, ak2, ao3, al3, ac3, ao4, al4, ac4, rfl, _, _⟩ := pa.letters; have KP := gr_none (by first | exact gr_d _ | exact gr_d1 | exact gr_alloc gr_d1 _ | exact gr_alloc (gr_d _) _ | exact gr_alloc (gr_refl _ _) _ | exact gr_refl _ _) ga; have GG : W2.grownBy wa none := gr_none (by first | exact gr_none GG (gr_d _) | exact gr_none GG gr_d1 | exact GG | exact gr_alloc GG _ | exact gr_alloc (gr_none GG gr_d1) _ | exact gr_alloc (gr_none GG (gr_d _)) _) ga; clear KP; rw [← HP.out, ← HQ.out] at pa; obtain ⟨a_z0, a_z1, a_zf0, a_zf1⟩ := (B2X.out wa GG).c2; obtain ⟨a_o0, a_o1, a_o2, a_of0, a_of1, a_of2⟩ := (BO.out wa GG).c3; obtain ⟨a_r0, a_r1, a_rf0, a_rf1⟩ := (B2R.out wa GG).c2) | (go_at_call 77; refine (end_at _ _ p q l L L _ (pa.keep0 (by first | exact gr_d _ | exact gr_d1 | exact gr_alloc gr_d1 _ | exact gr_alloc (gr_d _) _ | exact gr_alloc (gr_refl _ _) _ | exact gr_refl _ _)) (P1.out.keep0 (gr_none GW2.out (by first | exact gr_none GG (gr_d _) | exact gr_none GG gr_d1 | exact GG | exact gr_alloc GG _ | exact gr_alloc (gr_none GG gr_d1) _ | exact gr_alloc (gr_none GG (gr_d _)) _))) (by omega)).mono ?_; rintro e wb hb1; obtain ⟨vb, rfl, pb, gb⟩ := hb1.good HB.out; obtain ⟨bk1, bo1, bl1, bc1, bo2, bl2, bc2, bk2, bo3, bl3, bc3, bo4, bl4, bc4, rfl, _, _⟩ := pb.letters; have KP := gr_none (by first | exact gr_d _ | exact gr_d1 | exact gr_alloc gr_d1 _ | exact gr_alloc (gr_d _) _ | exact gr_alloc (gr_refl _ _) _ | exact gr_refl _ _) gb; have GG : W2.grownBy wb none := gr_none (by first | exact gr_none GG (gr_d _) | exact gr_none GG gr_d1 | exact GG | exact gr_alloc GG _ | exact gr_alloc (gr_none GG gr_d1) _ | exact gr_alloc (gr_none GG (gr_d _)) _) gb; clear KP; obtain ⟨b_z0, b_z1, b_zf0, b_zf1⟩ := (B2X.out wb GG).c2; obtain ⟨b_o0, b_o1, b_o2, b_of0, b_of1, b_of2⟩ := (BO.out wb GG).c3; obtain ⟨b_r0, b_r1, b_rf0, b_rf1⟩ := (B2R.out wb GG).c2) | (go_at_call 73; refine (tell_ok _ (enR p q l) (enI p q l) (16 * L + 2 * L + 80) _ (pb.keep0 (by first | exact gr_d _ | exact gr_d1 | exact gr_alloc gr_d1 _ | exact gr_alloc (gr_d _) _ | exact gr_alloc (gr_refl _ _) _ | exact gr_refl _ _)) (by omega) (HT.out.keep0 (gr_none GA.out (by first | exact gr_none GG (gr_d _) | exact gr_none GG gr_d1 | exact GG | exact gr_alloc GG _ | exact gr_alloc (gr_none GG gr_d1) _ | exact gr_alloc (gr_none GG (gr_d _)) _)))).mono ?_; rintro e wc ⟨rfl, gc⟩; have KP := gr_none (by first | exact gr_d _ | exact gr_d1 | exact gr_alloc gr_d1 _ | exact gr_alloc (gr_d _) _ | exact gr_alloc (gr_refl _ _) _ | exact gr_refl _ _) gc; have GG : W2.grownBy wc none := gr_none (by first | exact gr_none GG (gr_d _) | exact gr_none GG gr_d1 | exact GG | exact gr_alloc GG _ | exact gr_alloc (gr_none GG gr_d1) _ | exact gr_alloc (gr_none GG (gr_d _)) _) gc; clear KP; obtain ⟨c_z0, c_z1, c_zf0, c_zf1⟩ := (B2X.out wc GG).c2; obtain ⟨c_o0, c_o1, c_o2, c_of0, c_of1, c_of2⟩ := (BO.out wc GG).c3; obtain ⟨c_r0, c_r1, c_rf0, c_rf1⟩ := (B2R.out wc GG).c2))
      all_goals
        have HGd := hide GG
        go_wp2
        refine bodyPost_ret (v := .tuple #[.agg #[.string ⟨(qtext (enR p q l)).toArray⟩, .string ⟨(qtext (enI p q l)).toArray⟩], .int .i64 0]) (by first | (simp [results, Tryz.results25, go_sem, c_r0, c_r1]; done) | (simp [results, Tryz.results25, go_sem, c_r0, c_r1]; rfl)) rfl ?_
        exact ⟨rfl, gr_set (gr_set (gr_none GA.out HGd.out) _ _ (by first | (simp; done) | (simp; omega))) _ _ (by first | (simp; done) | (simp; omega))⟩
  · have hc : enC p q l = 5 := by unfold enC; rw [if_neg hl0]
    have hx : txZ (enC p q l) (enR p q l) (enI p q l) = .agg #[.string ⟨#[]⟩, .string ⟨#[]⟩] := by unfold txZ; rw [hc, if_neg (by decide)]
    rw [hx, hc]
    clear hx hc
    have HL0 := hide hl0
    go_enter Tryz.func25, Tryz.ntmps25
    go_wp2_with fail
    rw [← hW]
    clear hW
    refine (lineOf_at u l m L W HL.out hu F3.out (gr_cell GW.out HM.out)).mono ?_
    rintro e w1 h1
    obtain ⟨rfl, g1⟩ := h1.ill HL0.out
    have G1 := hide g1
    clear g1 h1
    go_upto_region 3 with fail
    obtain ⟨W2, hW2⟩ : ∃ wz, wz = (w1.alloc (Obj.cells #[.bool false, .slice none 0 0, .slice none 0 0] 114)) := ⟨_, rfl⟩
    have GW2 : Hid (w1.grownBy W2 none) := by rw [hW2]; exact gr_alloc (gr_refl _ _) _
    have BO : Hid (∀ wx, W2.grownBy wx none → BoxC wx w1.heap.size #[.bool false, .slice none 0 0, .slice none 0 0]) := by
      intro wx g
      rw [hW2] at g
      exact (boxNew w1 #[.bool false, .slice none 0 0, .slice none 0 0] 114).keep0 g
    rw [← hW2]
    clear hW2
    obtain ⟨r0, r1, rf0, rf1⟩ := (BR.out W2 (gr_none G1.out GW2.out)).c2
    have GA := hide (gr_none (gr_none GW.out G1.out) GW2.out)
    go_wp2
    refine bodyPost_ret (v := .tuple #[.agg #[.string ⟨#[]⟩, .string ⟨#[]⟩], .int .i64 5]) (by first | (simp [results, Tryz.results25, go_sem, r0, r1]; done) | (simp [results, Tryz.results25, go_sem, r0, r1]; rfl)) rfl ?_
    exact ⟨rfl, gr_set (gr_set (GA.out) _ _ (by first | (simp; done) | (simp; omega))) _ _ (by first | (simp; done) | (simp; omega))⟩
end Go.Proofs.YtdpagdlmpajjkafGreatDoor
