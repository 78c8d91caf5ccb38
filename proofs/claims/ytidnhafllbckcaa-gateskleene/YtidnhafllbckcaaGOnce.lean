/- voltaiclaw: once. -/
import Derived.Test.YtidnhafllbckcaaGClose
import Derived.Maps.OwnSet
namespace Go.Proofs.Ytidnhafllbckcaa
open Go.RowKit Go.Maps
set_option linter.unusedVariables false
set_option linter.unusedSimpArgs false

theorem cntL_ins {α : Type} (f : α → Nat → Nat × Int) (g : α → List Int) (hf : ∀ t a, (f t a).2 = 0 → a + (g t).length ≤ (f t a).1) : ∀ (l : List α) (a : Nat), (cntL f l a).2 = 0 → a + (l.flatMap g).length ≤ (cntL f l a).1
  | [], a, _ => by simp [cntL]
  | t :: r, a, h => by
    unfold cntL at h ⊢
    split at h
    · rename_i h0
      rw [if_pos h0]
      have h1 := hf t a h0
      have h2 := cntL_ins f g hf r _ h
      rw [List.flatMap_cons, List.length_append]
      omega
    · rename_i h0
      exact absurd h h0

theorem countE_ins (k : Int) : ∀ (n : Nat) (t : Ex n) (a : Nat), (countE k n t a).2 = 0 → a + (insE n t).length ≤ (countE k n t a).1
  | 0, t, _, _ => t.elim
  | n + 1, t, a, h => by
    have hg := countE_grows k (n + 1) t a h
    by_cases h1 : t.1 = 1
    · rw [insE, if_pos h1]
      exact hg
    · rw [insE, if_neg h1]
      unfold countE at h ⊢
      split at h
      · rename_i hw
        rw [if_pos hw]
        split at h
        · simp at h
        · rename_i h40
          rw [if_neg h40]
          have := cntL_ins _ _ (countE_ins k n) _ _ h
          omega
      · rename_i hw
        exact absurd h hw

theorem check_ins {n : Nat} {t : Ex n} {k : Int} (h : checkE n t k = 0) : (insE n t).length ≤ 40 := by
  unfold checkE at h
  split at h
  · simp at h
  · have h1 := countE_ins k n t 0 h
    have h2 := countE_le k n t 0 (by omega)
    omega

/-- Block b is a map that says of these numbers, and of no others, that they were seen. -/
def SeenAt (w : World) (b m : Nat) (S : List Int) : Prop := ∃ D : DataW Unit, w.ownsMap Try.prog 3 (plainElem Try.prog 4) b m D ∧ ∀ i : Int, D.atKey (.int .i64 i) (.lit (.bool false)) = .lit (.bool (decide (i ∈ S)))

theorem SeenAt.keep {w w' : World} {b m : Nat} {S : List Int} (h : SeenAt w b m S) (g : w.grownBy w' none) : SeenAt w' b m S := by
  obtain ⟨D, h1, h2⟩ := h
  exact ⟨D, h1.kept g (by simp), h2⟩
theorem SeenAt.lt {w : World} {b m : Nat} {S : List Int} (h : SeenAt w b m S) : b < w.heap.size := by
  obtain ⟨D, h1, _⟩ := h
  exact h1.lt
theorem seen_made (w : World) : SeenAt (w.alloc (.map #[] 0)) w.heap.size 0 [] := ⟨.map [], World.ownsMap_made _ _ _ _, fun i => rfl⟩

theorem keyI : Keyed Try.prog 3 := int_keyed Try.underlying3
theorem zeroB (w : World) : (zeroValue 4).run Try.prog w = .ok (.bool false) w := by kernel_rfl

theorem plainElem_bool_inv {v : Value} {z : DataW Unit × List MemPlace} (h : plainElem Try.prog 4 v = some z) : ∃ x, v = .bool x ∧ z = (.lit (.bool x), []) := by
  unfold plainElem at h
  rw [Try.underlying4] at h
  cases v <;> simp at h
  exact ⟨_, rfl, h.symm⟩

theorem SeenAt.look {w : World} {b m : Nat} {S : List Int} (h : SeenAt w b m S) (i : Int) (hi : (Lit.int .i64 i).wf = true) : (Instr.lookup 47 (.map (some b)) (.int .i64 i) false).run Try.prog w = .ok (.bool (decide (i ∈ S))) w := by
  obtain ⟨D, h1, h2⟩ := h
  obtain ⟨v, ps, hrun, hv⟩ := h1.lookup keyI Try.underlying47 (zeroB w) (plainElem_bool Try.underlying4 false) (keyOf_int_mk Try.underlying3 hi)
  obtain ⟨x, rfl, e⟩ := plainElem_bool_inv hv
  simp only [Prod.mk.injEq] at e
  rw [h2 i] at e
  have : decide (i ∈ S) = x := by
    have := e.1
    simpa using this
  rw [hrun, this]

theorem SeenAt.mark {w w' : World} {b m : Nat} {S : List Int} {D : DataW Unit} {i : Int} (hm : w.ownsMap Try.prog 3 (plainElem Try.prog 4) b m D) (h2 : ∀ i : Int, D.atKey (.int .i64 i) (.lit (.bool false)) = .lit (.bool (decide (i ∈ S))))
    (h : w'.ownsMap Try.prog 3 (plainElem Try.prog 4) b (m + 1) (D.put (.int .i64 i) (.lit (.bool true)))) : SeenAt w' b (m + 1) (S ++ [i]) := by
  refine ⟨_, h, fun j => ?_⟩
  by_cases e : j = i
  · subst e
    rw [atKey_put_same hm.isMap (show WideAt.IsKeyLit (.int .i64 j) from trivial)]
    simp
  · rw [atKey_put_other (fun e2 => e (by injection e2)), h2 j]
    simp [e]

/-- What once answers. -/
def OncE (w : World) (b m n : Nat) (t : Ex n) (S : List Int) (e : Ending) (w' : World) : Prop := ∃ r : Bool, e = .returned (.bool r) ∧ w.grownBy w' (some b) ∧ (r = true → SeenAt w' b (m + (insE n t).length) (S ++ insE n t) ∧ (S ++ insE n t).Nodup)

def OncR (w : World) (b m n : Nat) (l : List (Ex n)) (S : List Int) (iv : Value) (wr : World) : Prop :=
  ∃ i : Nat, i ≤ l.length ∧ iv = .int .i64 (i : Nat) ∧ SeenAt wr b (m + ((l.take i).flatMap (insE n)).length) (S ++ (l.take i).flatMap (insE n)) ∧ (S ++ (l.take i).flatMap (insE n)).Nodup ∧ w.grownBy wr (some b)

theorem nodup_snoc {S : List Int} {i : Int} (h : S.Nodup) (hi : i ∉ S) : (S ++ [i]).Nodup := List.nodup_append.2 ⟨h, by simp, fun a ha c hc => by simp at hc; subst hc; exact fun e => hi (e ▸ ha)⟩

set_option maxHeartbeats 8000000 in
set_option maxRecDepth 10000 in
theorem once_at (k : Int) (hk6 : k ≤ 6) : ∀ (n : Nat) (t : Ex n) (c0 c1 c2 c3 : Value) (b m : Nat) (S : List Int) (w : World), WayP w (fun x => x < b) n c0 c1 c2 c3 t → FineE k n t → SeenAt w b m S → S.Nodup → m + (insE n t).length ≤ 1000 →
    Calls Try.prog 17 #[.agg #[c0, c1, c2, c3], .map (some b)] w fun e w' => OncE w b m n t S e w' := by
  intro n
  induction n with
  | zero => intro t; exact t.elim
  | succ n ih =>
    intro t c0 c1 c2 c3 b m S w hw hf hS hN hm
    obtain ⟨kd, i, bo, l⟩ := t
    obtain ⟨e0, e1, e2, ao, cap, e3, h1, h2, h3⟩ := hw
    dsimp only at e0 e1 e2 e3 h1 h2 h3
    subst e0 e1 e2 e3
    have HR := hide h3
    have IH := hide ih
    obtain ⟨hw0, hf0⟩ := hf
    have HF := hide hf0
    dsimp only at hw0
    unfold maxLen at h2
    have hbl := hS.lt
    have HN := hide hN
    have HS := hide hS
    clear h3 ih hf0 hN hS
    rcases wrong_zero hw0 with ⟨rfl, hl, hi0, hi1⟩ | ⟨hk, hl, rfl, rfl⟩
    · have hin : insE (n + 1) (1, i, bo, l) = [i] := if_pos rfl
      have hwf : (Lit.int .i64 i).wf = true := by
        show (decide (IntKind.i64.min ≤ i) && decide (i ≤ IntKind.i64.max)) = true
        have e1 : IntKind.i64.min = -9223372036854775808 := by decide
        have e2 : IntKind.i64.max = 9223372036854775807 := by decide
        rw [e1, e2]
        simp
        omega
      have hbne : ¬ b = w.heap.size := by omega
      have HSA := hide (HS.out.keep (gr_alloc (gr_refl w none) (Obj.cells #[.int .i64 1, .int .i64 i, .bool bo, .slice ao 0 cap] 24)))
      have hlook := HSA.out.look i hwf
      obtain ⟨D, hD, hat⟩ := HSA.out
      have HD := hide hD
      have HAT := hide hat
      have HWF := hide hwf
      have hmx : m < maxLen := by unfold maxLen; rw [hin] at hm; simp at hm; omega
      clear hD hat hwf hw0
      obtain rfl : l = [] := List.length_eq_zero_iff.1 hl
      go_enter Try.func17, Try.ntmps17
      go_wp2_with (at_mapUpdate; refine wpList_mapUpdate_own _ rfl _ _ _ 47 rfl 3 4 keyI Try.underlying47 _ b m D rfl HD.out hmx _ _ _ rfl rfl (keyOf_int_mk Try.underlying3 HWF.out) _ [] (plainElem_bool Try.underlying4 true) ?_; intro w1 hown1 hgrow1)
      go_ret
      refine ⟨_, rfl, gr_tail (gr_alloc (gr_refl _ _) _) hgrow1, fun hr => ?_⟩
      have hns : i ∉ S := by simpa using hr
      rw [hin]
      exact ⟨SeenAt.mark HD.out HAT.out hown1, nodup_snoc HN.out hns⟩
    · have hin : insE (n + 1) (kd, 0, false, l) = l.flatMap (insE n) := if_neg (by show kd ≠ 1; omega)
      rw [hin] at hm
      have HIN := hide hin
      have hkd : (kd == 1) = false := ne_beq (by omega)
      have gA := hide (gr_alloc (gr_refl w none) (Obj.cells #[.int .i64 kd, .int .i64 0, .bool false, .slice ao l.length cap] 24))
      have HSA := hide (HS.out.keep gA.out)
      have ST : Hid (OncR w b m n l S (.int .i64 0) (w.alloc (Obj.cells #[.int .i64 kd, .int .i64 0, .bool false, .slice ao l.length cap] 24))) := ⟨0, Nat.zero_le _, rfl, by simpa using HSA.out, by simpa using HN.out, gr_tail gA.out (gr_refl _ _)⟩
      clear hin hk hw0
      go_enter Try.func17, Try.ntmps17
      go_wp2
      go_loopw [23] (fun iv wr => Hid (OncR w b m n l S iv wr)) (fun iv _ => l.length - (intOf iv).toNat)
      case atStart => exact ST.out
      case round =>
        clear ST gA HSA
        obtain ⟨j, hj, rfl, hse, hnd, hgr⟩ := hrel.out
        have HSE := hide hse
        have HND := hide hnd
        have HGR := hide hgr
        have hbw := hse.lt
        clear hrel hse hnd hgr
        by_cases hlt : j < l.length
        · obtain ⟨bb, off, rfl, hb, hok, d0, d1, d2, d3, k0, k1, k2, k3, hk⟩ := HR.out j hlt
          have hbb : some bb ≠ some b := fun e => by have := Option.some.inj e; omega
          have q0 := HGR.out.cell k0 hbb
          have q1 := HGR.out.cell k1 hbb
          have q2 := HGR.out.cell k2 hbb
          have q3 := HGR.out.cell k3 hbb
          have HK := hide (hk.keep (ok' := fun x => x < b) HGR.out (fun x _ hx => ⟨fun e => by have := Option.some.inj e; omega, hx⟩))
          obtain ⟨kd2, i2, b2, ao2, len2, cap2, rfl, rfl, rfl, rfl⟩ := hk.way.cells
          have htk : l.take (j + 1) = l.take j ++ [l[j]] := List.take_succ_eq_append_getElem hlt
          have hfl : (l.take (j + 1)).flatMap (insE n) = (l.take j).flatMap (insE n) ++ insE n (l[j]) := by
            rw [htk, List.flatMap_append]
            show _ ++ (insE n l[j] ++ []) = _
            rw [List.append_nil]
          have hlen : ((l.take j).flatMap (insE n)).length + (insE n (l[j])).length ≤ (l.flatMap (insE n)).length := by
            have e : l.flatMap (insE n) = (l.take (j + 1)).flatMap (insE n) ++ (l.drop (j + 1)).flatMap (insE n) := by rw [← List.flatMap_append, List.take_append_drop]
            rw [e, hfl]
            simp
          have HFL := hide hfl
          clear k0 k1 k2 k3 hk htk hfl hbb
          go_wp2_with fail
          refine (IH.out (l[j]) _ _ _ _ b _ _ _ (HK.out.keep (ok' := fun x => x < b) (gr_alloc (gr_refl _ none) _) (fun x _ hx => ⟨by simp, hx⟩)) (HF.out _ (List.getElem_mem hlt)) (HSE.out.keep (gr_alloc (gr_refl _ _) _)) HND.out (by omega)).mono ?_
          rintro e w2 ⟨r, rfl, g2, hr⟩
          have HR2 := hide hr
          have G2 := hide (gr_trans (r := some b) HGR.out (gr_tail (gr_alloc (gr_refl wr none) (Obj.cells #[.int .i64 kd2, .int .i64 i2, .bool b2, .slice ao2 len2 cap2] 24)) g2) (fun _ _ e => e) (fun _ _ e => e))
          clear hr g2
          cases r with
          | true =>
            go_wp2
            go_roundw
            case rel =>
              obtain ⟨u1, u2⟩ := HR2.out trivial
              refine ⟨j + 1, by omega, by go_num, ?_, ?_, G2.out⟩
              · rw [HFL.out, List.length_append, ← List.append_assoc, ← Nat.add_assoc]; exact u1
              · rw [HFL.out, ← List.append_assoc]; exact u2
            case measure => simp [intOf]; omega
          | false =>
            go_wp2
            go_ret
            exact ⟨false, rfl, G2.out, fun e => by cases e⟩
        · obtain rfl : j = l.length := by omega
          go_wp2
          go_ret
          refine ⟨true, rfl, HGR.out, fun _ => ?_⟩
          have h1 := HSE.out
          have h2 := HND.out
          rw [List.take_length] at h1 h2
          rw [HIN.out]
          exact ⟨h1, h2⟩
end Go.Proofs.Ytidnhafllbckcaa
