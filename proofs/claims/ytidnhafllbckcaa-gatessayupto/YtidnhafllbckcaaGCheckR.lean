/- voltaicref: CheckWay. -/
import Derived.Test.YtidnhafllbckcaaGTodo
import Derived.Deep.DeepCutAuto
namespace Go.Proofs.Ytidnhafllbckcaa
open Go.RowKit
set_option linter.unusedVariables false
set_option linter.unusedSimpArgs false

def TodR (w : World) (k R : Int) (tv sv : Value) (wr : World) : Prop :=
  ∃ (seen : Nat) (S : List Any) (xs : List Value), 1 ≤ seen ∧ seen ≤ 41 ∧ sv = .int .i64 (seen : Nat) ∧ RowL wr tv S.length xs ∧ CellsOf w S xs ∧ chkF k (41 - seen) S = R ∧ szS S ≤ 1048576 ∧ w.grownBy wr none

set_option maxHeartbeats 16000000 in
set_option maxRecDepth 10000 in
theorem rCheck_at (k : Int) (n : Nat) (t : Ex n) (c0 c1 c2 c3 : Value) (w : World) (hw : WayC w n c0 c1 c2 c3 t) (hsz : szE n t ≤ 1048576) :
    Calls Try.prog 6 #[.agg #[c0, c1, c2, c3], .int .i64 k] w fun e w' => e = .returned (.int .i64 (checkE n t k)) ∧ w.grownBy w' none := by
  have HW := hide hw
  obtain ⟨kd, i, b, ao, len, cap, rfl, rfl, rfl, rfl⟩ := hw.cells
  clear hw
  by_cases h1 : k < 0
  · have e : checkE n t k = 10 := by unfold checkE; rw [if_pos (.inl h1)]
    rw [e]
    go_enter Try.func6, Try.ntmps6
    go_wp2
    go_ret
    exact ⟨rfl, gr_alloc (gr_refl _ _) _⟩
  · have h1' : decide (k < 0) = false := by simpa using h1
    by_cases h2 : 6 < k
    · have e : checkE n t k = 10 := by unfold checkE; rw [if_pos (.inr h2)]
      rw [e]
      go_enter Try.func6, Try.ntmps6
      go_wp2
      go_ret
      exact ⟨rfl, gr_alloc (gr_refl _ _) _⟩
    · have h2' : decide (6 < k) = false := by simpa using h2
      obtain ⟨R, hR⟩ : ∃ R, R = checkE n t k := ⟨_, rfl⟩
      have hR2 : chkF k 40 [⟨n, t⟩] = R := by rw [chk_check, hR]; unfold checkE; rw [if_neg (by omega)]
      rw [← hR]
      have HR := hide hR2
      clear hR hR2
      have gA : Hid (w.grownBy ((w.alloc (Obj.cells #[.int .i64 kd, .int .i64 i, .bool b, .slice ao len cap] 24)).alloc (Obj.cells #[.int .i64 kd, .int .i64 i, .bool b, .slice ao len cap] 24)) none) := gr_alloc (gr_alloc (gr_refl _ _) _) _
      have BB : Hid (BoxC ((w.alloc (Obj.cells #[.int .i64 kd, .int .i64 i, .bool b, .slice ao len cap] 24)).alloc (Obj.cells #[.int .i64 kd, .int .i64 i, .bool b, .slice ao len cap] 24)) (w.heap.size + 1) #[.int .i64 kd, .int .i64 i, .bool b, .slice ao len cap]) := boxNew' _ _ _ _ (by simp)
      have hc0 : CellsOf w [⟨n, t⟩] [.int .i64 kd, .int .i64 i, .bool b, .slice ao len cap] := ⟨rfl, fun j hj => by
        obtain rfl : j = 0 := by simpa using hj
        exact ⟨kd, i, b, ao, len, cap, rfl, rfl, rfl, rfl, HW.out⟩⟩
      have HC0 := hide hc0
      clear hc0
      go_enter Try.func6, Try.ntmps6
      go_wp2_with fail
      generalize (w.alloc (Obj.cells #[.int .i64 kd, .int .i64 i, .bool b, .slice ao len cap] 24)).alloc (Obj.cells #[.int .i64 kd, .int .i64 i, .bool b, .slice ao len cap] 24) = W at *
      go_loopw [5, 6] (fun tv sv wr => Hid (TodR w k R tv sv wr)) (fun _ sv _ => 42 - (intOf sv).toNat)
      case atStart =>
        refine ⟨1, [⟨n, t⟩], _, by omega, by omega, rfl, ⟨rfl, _, 1, rfl, Nat.le_refl _, by unfold maxLen; decide, .inr ⟨w.heap.size + 1, 0, rfl, BB.out.lt, fun j u hu => ?_⟩⟩, HC0.out, HR.out, by simpa [szS] using hsz, gA.out⟩
        rw [Nat.zero_add, BB.out.cell]
        simpa using hu
      case round =>
        obtain ⟨seen, S, xs, hs1, hs41, rfl, hrow, hcl, hck, hss, hgr⟩ := hrel.out
        obtain ⟨hxl, tdo, tc, rfl, htc, htm, hto⟩ := hrow
        have HCL := hide hcl
        have HCK := hide hck
        have HGR := hide hgr
        have hSl := len_szS hcl
        unfold maxLen at htm
        clear hrel hcl hck hgr BB HC0 gA HR
        cases S with
        | nil =>
          have e : R = 0 := by
            rw [← HCK.out]
            cases (41 - seen) <;> rfl
          subst e
          go_wp2
          go_ret
          exact ⟨rfl, HGR.out⟩
        | cons s S =>
          rcases hto with ⟨_, h0, _⟩ | ⟨tb, toff, rfl, htb, hcell⟩
          · simp at h0
          · obtain ⟨xk, xi, xb, xao, xlen, xcap, k0, k1, k2, k3, hx⟩ := HCL.out.2 0 (by simp)
            have q0 := hcell _ _ k0
            have q1 := hcell _ _ k1
            have q2 := hcell _ _ k2
            have q3 := hcell _ _ k3
            simp only [Nat.zero_mul, Nat.zero_add, Nat.add_zero] at q0 q1 q2 q3
            have HX := hide hx
            have HCE := hide hcell
            clear hx hcell k0 k1 k2 k3
            simp only [List.length_cons] at htc hxl hSl ⊢
            go_upto_region 8 with fail
            obtain ⟨sn, st⟩ := s
            match sn, st, HX, HCL, HCK, hSl, hss with
            | 0, st, _, _, _, _, _ => exact st.elim
            | sn + 1, st, HX, HCL, HCK, hSl, hss =>
              obtain ⟨yk, yi, yb, yl, yao, ycap, rfl, e0, e1, e2, e3, hyc, hym, hyr⟩ := WayC.open HX.out
              obtain rfl : xk = yk := by simpa using e0
              obtain rfl : xi = yi := by simpa using e1
              obtain rfl : xb = yb := by simpa using e2
              obtain ⟨rfl, rfl, rfl⟩ : xao = yao ∧ xlen = yl.length ∧ xcap = ycap := by simpa using e3
              obtain ⟨news, hkc, hks⟩ := kids_cells (cap := xcap) hyr
              have HKC := hide hkc
              have HKS := hide hks
              have hcd : CellsOf w S (xs.drop 4) := HCL.out.tail
              have HCD := hide hcd
              have hsk := szS_kids sn (xk, xi, xb, yl) S
              have hml : yl.length + S.length ≤ 1048576 := by
                have h := len_szS (hkc.append hcd)
                rw [List.length_append, List.length_map] at h
                have e2 : szS ((yl.map fun u => (⟨sn, u⟩ : Any)) ++ S) + 1 = szS (⟨sn + 1, (xk, xi, xb, yl)⟩ :: S) := hsk
                omega
              have HSK := hide (show szS ((yl.map fun u => (⟨sn, u⟩ : Any)) ++ S) ≤ 1048576 by
                have e2 : szS ((yl.map fun u => (⟨sn, u⟩ : Any)) ++ S) + 1 = szS (⟨sn + 1, (xk, xi, xb, yl)⟩ :: S) := hsk
                omega)
              have hyl : yl.length ≤ 2000000 := by omega
              obtain ⟨A, hA, hsrc2⟩ : ∃ A : Addr, (if tc = 1 then (some ⟨tb, toff, none⟩ : Option Addr) else some ⟨tb, toff + 4, none⟩) = some A ∧ SrcW wr (.slice (some A) S.length (tc - 1)) S.length (xs.drop 4) := by
                refine ⟨if tc = 1 then ⟨tb, toff, none⟩ else ⟨tb, toff + 4, none⟩, by split <;> rfl, by rw [List.length_drop]; omega, hcd.one, .inr ⟨_, _, rfl, fun q u hu => ?_⟩⟩
                have hq : q < xs.length - 4 := by
                  have := (List.getElem?_eq_some_iff.1 hu).1
                  rw [List.length_drop] at this
                  exact this
                rw [if_neg (by omega)]
                rw [List.getElem?_drop] at hu
                have := HCE.out _ _ hu
                have ad : (⟨tb, toff + 4, none⟩ : Addr).add q = ⟨tb, toff + (4 + q), none⟩ := by
                  unfold Addr.add
                  by_cases h0 : q = 0
                  · simp [h0]
                  · simp [h0]; omega
                rw [ad]
                exact this
              have HS2 := hide hsrc2
              have h11 : (1 : Int) ≤ (S.length : Int) + 1 := by omega
              clear hkc hks e0 e1 e2 e3 HX hyr hsrc2 hcd hsk
              have OWN0 : Hid (((wr.alloc (Obj.cells #[.int .i64 xk, .int .i64 xi, .bool xb, .slice xao yl.length xcap] 24)).alloc (Obj.cells #[] 24)).ownsRow (wr.heap.size + 1) 24 4 (.slice (some ⟨wr.heap.size + 1, 0, none⟩) 0 0) 0 []) := by
                have := World.ownsRow_made (base := wr.heap.size + 1) (e := 24) (size := 4) (wr.alloc (Obj.cells #[.int .i64 xk, .int .i64 xi, .bool xb, .slice xao yl.length xcap] 24)) #[] 0 (by simp) (Nat.zero_le _) rfl
                rw [World.size_alloc] at this
                exact this
              have GB0 := hide (gr_alloc (gr_alloc (gr_refl wr none) (Obj.cells #[.int .i64 xk, .int .i64 xi, .bool xb, .slice xao yl.length xcap] 24)) (Obj.cells #[] 24))
              have BX0 := hide ((boxNew wr #[.int .i64 xk, .int .i64 xi, .bool xb, .slice xao yl.length xcap] 24).keep0 (gr_alloc (gr_refl _ none) (Obj.cells #[] 24)))
              have hsb : wr.heap.size + 1 ≤ ((wr.alloc (Obj.cells #[.int .i64 xk, .int .i64 xi, .bool xb, .slice xao yl.length xcap] 24)).alloc (Obj.cells #[] 24)).heap.size := by simp
              have GA0 := hide (gr_alloc (gr_refl (wr.alloc (Obj.cells #[.int .i64 xk, .int .i64 xi, .bool xb, .slice xao yl.length xcap] 24)) none) (Obj.cells #[] 24))
              go_region_law
                (first
                  | (refine step_append_w _ rfl (.tmp 24) (.tmp 26) 22 rfl (wr.heap.size + 1) Try.underlying22 Try.infoWay (.slice (some ⟨wr.heap.size + 1, 0, none⟩) 0 0) 0 [] ?_ ?_ (.slice xao yl.length xcap) yl.length news ?_ ?_ (by omega) ?_ ?_; (focus simp [Act.eval, Act.put]); (focus exact OWN0.out); (focus simp [Act.eval, Act.put]); (focus exact (HKS.out.keep (gr_none HGR.out GB0.out)).keep (gr_drew (gr_refl _ _))); (focus exact hsb); intro ao1 cap1 w1 o1 g1 t1; have ga1 := gr_in (gr_drew GA0.out) g1 (by simp); have gw1 := gr_none (gr_alloc (gr_refl wr none) _) ga1; rw [Nat.zero_add, List.nil_append] at o1; clear t1)
                  | (refine step_append_w _ rfl (.tmp 27) (.tmp 29) 22 rfl (wr.heap.size + 1) Try.underlying22 Try.infoWay (.slice ao1 yl.length cap1) yl.length news ?_ ?_ (.slice (some A) S.length (tc - 1)) S.length (xs.drop 4) ?_ ?_ (by omega) ?_ ?_; (focus simp [Act.eval, Act.put]); (focus exact o1); (focus simp [Act.eval, Act.put]); (focus exact HS2.out.keep gw1); (focus (have := gw1.size; have := ga1.size; simp at this; omega)); intro ao2 cap2 w2 o2 g2 t2))
              all_goals
                have GA2 := hide (gr_trans (r := none) ga1 g2 (fun _ _ e => e) (fun q hq e => by
                  have h5 := (o1.lt q e.symm).1
                  simp at hq
                  omega))
                have GW2 := hide (gr_none (gr_alloc (gr_refl wr none) _) GA2.out)
                have BX2 := hide ((boxNew wr #[.int .i64 xk, .int .i64 xi, .bool xb, .slice xao yl.length xcap] 24).keep0 GA2.out)
                have ROW2 := hide (own_rowL o2)
                have CL2 := hide (HKC.out.append HCD.out)
                obtain ⟨z0, z1, z2, z3⟩ := BX2.out.c4
                clear ga1 gw1 g1 g2 o1 o2 t2 hA OWN0 GB0 GA0 BX0 HS2 HKS q0 q1 q2 q3
                simp only [List.getElem_toArray, List.getElem_cons_succ, List.getElem_cons_zero, Act.put]
                by_cases a1 : xk < 1
                · have a1' : decide (xk < 1) = true := by simpa using a1
                  have e : R = 3 := by
                    have hx : wrongA k ⟨sn + 1, (xk, xi, xb, yl)⟩ = 3 := (show wrongW k xk xi xb yl.length = 3 by unfold wrongW; rw [if_neg (by omega), if_neg (by omega)])
                    rw [← HCK.out, chk_bad (by rw [hx]; decide), hx]
                  subst e
                  clear HCK CL2 ROW2
                  go_wp2
                  go_ret
                  exact ⟨rfl, gr_none HGR.out GW2.out⟩
                · have a1' : decide (xk < 1) = false := by simpa using a1
                  by_cases a2 : 3 < xk
                  · have a2' : decide (3 < xk) = true := by simpa using a2
                    have e : R = 3 := by
                      have hx : wrongA k ⟨sn + 1, (xk, xi, xb, yl)⟩ = 3 := (show wrongW k xk xi xb yl.length = 3 by unfold wrongW; rw [if_neg (by omega), if_neg (by omega)])
                      rw [← HCK.out, chk_bad (by rw [hx]; decide), hx]
                    subst e
                    clear HCK CL2 ROW2
                    go_wp2
                    go_ret
                    exact ⟨rfl, gr_none HGR.out GW2.out⟩
                  · have a2' : decide (3 < xk) = false := by simpa using a2
                    by_cases a3 : xk = 1
                    · subst a3
                      by_cases a4 : 0 < yl.length
                      · have a4' : (0 : Int) < (yl.length : Int) := by omega
                        have e : R = 6 := by
                          have hx : wrongA k ⟨sn + 1, (1, xi, xb, yl)⟩ = 6 := (show wrongW k 1 xi xb yl.length = 6 by unfold wrongW; rw [if_pos rfl, if_pos a4])
                          rw [← HCK.out, chk_bad (by rw [hx]; decide), hx]
                        subst e
                        clear HCK CL2 ROW2
                        go_wp2
                        go_ret
                        exact ⟨rfl, gr_none HGR.out GW2.out⟩
                      · have a4' : ¬ (0 : Int) < (yl.length : Int) := by omega
                        by_cases a5 : xi < 0
                        · have a5' : decide (xi < 0) = true := by simpa using a5
                          have e : R = 4 := by
                            have hx : wrongA k ⟨sn + 1, (1, xi, xb, yl)⟩ = 4 := (show wrongW k 1 xi xb yl.length = 4 by unfold wrongW; rw [if_pos rfl, if_neg a4, if_pos (.inl a5)])
                            rw [← HCK.out, chk_bad (by rw [hx]; decide), hx]
                          subst e
                          clear HCK CL2 ROW2
                          go_wp2
                          go_ret
                          exact ⟨rfl, gr_none HGR.out GW2.out⟩
                        · have a5' : decide (xi < 0) = false := by simpa using a5
                          by_cases a6 : k ≤ xi
                          · have a6' : decide (k ≤ xi) = true := by simpa using a6
                            have e : R = 4 := by
                              have hx : wrongA k ⟨sn + 1, (1, xi, xb, yl)⟩ = 4 := (show wrongW k 1 xi xb yl.length = 4 by unfold wrongW; rw [if_pos rfl, if_neg a4, if_pos (.inr a6)])
                              rw [← HCK.out, chk_bad (by rw [hx]; decide), hx]
                            subst e
                            clear HCK CL2 ROW2
                            go_wp2
                            go_ret
                            exact ⟨rfl, gr_none HGR.out GW2.out⟩
                          · have a6' : decide (k ≤ xi) = false := by simpa using a6
                            have hx : wrongA k ⟨sn + 1, (1, xi, xb, yl)⟩ = 0 := (show wrongW k 1 xi xb yl.length = 0 by unfold wrongW; rw [if_pos rfl, if_neg a4, if_neg (by omega)])
                            by_cases h41 : seen = 41
                            · subst h41
                              have e : R = 2 := by rw [← HCK.out]; exact chk_many hx S
                              subst e
                              clear HCK CL2 ROW2 hx
                              go_wp2
                              go_ret
                              exact ⟨rfl, gr_none HGR.out GW2.out⟩
                            · have hs40 : seen ≤ 40 := by omega
                              have HN : Hid (chkF k (41 - (seen + 1)) ((yl.map fun u => (⟨sn, u⟩ : Any)) ++ S) = R) := by
                                rw [← HCK.out, show 41 - seen = (41 - (seen + 1)) + 1 by omega]
                                exact (chk_next hx _ S).symm
                              clear hx HCK h41
                              go_wp2
                              go_roundw
                              case rel => exact ⟨seen + 1, (yl.map fun u => (⟨sn, u⟩ : Any)) ++ S, _, by omega, by omega, by go_num, by rw [List.length_append, List.length_map]; exact ROW2.out, CL2.out, HN.out, HSK.out, gr_none HGR.out GW2.out⟩
                              case measure => simp [intOf]; omega
                    · have a3' := ne_beq a3
                      have a3g : (1 : Int) < xk := by omega
                      by_cases a4 : yl.length = 0
                      · have a4' : ((yl.length : Int) == 0) = true := eq_beq (by omega)
                        have e : R = 6 := by
                          have hx : wrongA k ⟨sn + 1, (xk, xi, xb, yl)⟩ = 6 := (show wrongW k xk xi xb yl.length = 6 by unfold wrongW; rw [if_neg a3, if_pos (by omega), if_pos (.inl a4)])
                          rw [← HCK.out, chk_bad (by rw [hx]; decide), hx]
                        subst e
                        clear HCK CL2 ROW2
                        go_wp2
                        go_ret
                        exact ⟨rfl, gr_none HGR.out GW2.out⟩
                      · have a4' : ((yl.length : Int) == 0) = false := ne_beq (by omega)
                        by_cases a5 : xi = 0
                        · subst a5
                          cases xb with
                          | true =>
                            have e : R = 6 := by
                              have hx : wrongA k ⟨sn + 1, (xk, 0, true, yl)⟩ = 6 := (show wrongW k xk 0 true yl.length = 6 by unfold wrongW; rw [if_neg a3, if_pos (by omega), if_pos (.inr (.inr rfl))])
                              rw [← HCK.out, chk_bad (by rw [hx]; decide), hx]
                            subst e
                            clear HCK CL2 ROW2
                            go_wp2
                            go_ret
                            exact ⟨rfl, gr_none HGR.out GW2.out⟩
                          | false =>
                            have hx : wrongA k ⟨sn + 1, (xk, 0, false, yl)⟩ = 0 := (show wrongW k xk 0 false yl.length = 0 by unfold wrongW; rw [if_neg a3, if_pos (by omega), if_neg (by simp; exact fun e => a4 (by rw [e]; rfl))])
                            by_cases h41 : seen = 41
                            · subst h41
                              have e : R = 2 := by rw [← HCK.out]; exact chk_many hx S
                              subst e
                              clear HCK CL2 ROW2 hx
                              go_wp2
                              go_ret
                              exact ⟨rfl, gr_none HGR.out GW2.out⟩
                            · have hs40 : seen ≤ 40 := by omega
                              have HN : Hid (chkF k (41 - (seen + 1)) ((yl.map fun u => (⟨sn, u⟩ : Any)) ++ S) = R) := by
                                rw [← HCK.out, show 41 - seen = (41 - (seen + 1)) + 1 by omega]
                                exact (chk_next hx _ S).symm
                              clear hx HCK h41
                              go_wp2
                              go_roundw
                              case rel => exact ⟨seen + 1, (yl.map fun u => (⟨sn, u⟩ : Any)) ++ S, _, by omega, by omega, by go_num, by rw [List.length_append, List.length_map]; exact ROW2.out, CL2.out, HN.out, HSK.out, gr_none HGR.out GW2.out⟩
                              case measure => simp [intOf]; omega
                        · have a5' := ne_beq a5
                          have e : R = 6 := by
                            have hx : wrongA k ⟨sn + 1, (xk, xi, xb, yl)⟩ = 6 := (show wrongW k xk xi xb yl.length = 6 by unfold wrongW; rw [if_neg a3, if_pos (by omega), if_pos (.inr (.inl a5))])
                            rw [← HCK.out, chk_bad (by rw [hx]; decide), hx]
                          subst e
                          clear HCK CL2 ROW2
                          go_wp2
                          go_ret
                          exact ⟨rfl, gr_none HGR.out GW2.out⟩
end Go.Proofs.Ytidnhafllbckcaa
