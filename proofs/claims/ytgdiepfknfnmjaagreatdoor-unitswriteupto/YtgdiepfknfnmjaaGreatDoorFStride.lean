/- frac: strideOf. -/
import Derived.Test.YtgdiepfknfnmjaaGreatDoorMFb
namespace Go.Proofs.YtgdiepfknfnmjaaGreatDoor
open Go.RowKit
set_option linter.unusedVariables false

def max4 (x y z u : Int) : Int :=
  if u > (if z > (if y > x then y else x) then z else (if y > x then y else x)) then u else (if z > (if y > x then y else x) then z else (if y > x then y else x))

theorem run_max4 {P : Program} (w : World) (ts : Array TypeId) (t : TypeId) (k : IntKind) (x y z u : Int) : (Builtin.max_ ts t #[.int k x, .int k y, .int k z, .int k u]).run P w = .ok (.int k (max4 x y z u)) w := by
  simp [Builtin.max_, Builtin.max2, max4]

theorem max4_lt (x y z u B : Int) : max4 x y z u < B ↔ x < B ∧ y < B ∧ z < B ∧ u < B := by
  unfold max4
  repeat' split
  all_goals omega

theorem prod_bd2 (q c : Int) (h0 : 0 ≤ q) (h1 : q < 1073741824) (c1 : -1073741824 < c) (c2 : c < 1073741824) : -1152921504606846976 < q * c ∧ q * c < 1152921504606846976 := by
  have k1 : q * c ≤ q * 1073741823 := Int.mul_le_mul_of_nonneg_left (by omega) h0
  have k2 : q * (-1073741823) ≤ q * c := Int.mul_le_mul_of_nonneg_left (by omega) h0
  omega

/-- Four numbers in a block. -/
def Four (w : World) (g : Nat) (a b c d : Int) : Prop := w.heap[g]? = some (.cells #[.int .i64 a, .int .i64 b, .int .i64 c, .int .i64 d] 128 (0, 0))

theorem Four.cells {w : World} {g : Nat} {a b c d : Int} (h : Four w g a b c d) : w.cell? ⟨g, 0, none⟩ = some (.int .i64 a) ∧ w.cell? ⟨g, 1, none⟩ = some (.int .i64 b) ∧ w.cell? ⟨g, 2, none⟩ = some (.int .i64 c) ∧ w.cell? ⟨g, 3, none⟩ = some (.int .i64 d) ∧ ∀ i, w.frozen? ⟨g, i, none⟩ = false := by
  unfold Four at h
  refine ⟨?_, ?_, ?_, ?_, fun i => ?_⟩ <;> simp [World.cell?, World.frozen?, h]

theorem Four.set {w : World} {g : Nat} {a b c d a' b' c' d' : Int} (h : Four w g a b c d) : Four ((((w.setCell ⟨g, 0, none⟩ (.int .i64 a')).setCell ⟨g, 1, none⟩ (.int .i64 b')).setCell ⟨g, 2, none⟩ (.int .i64 c')).setCell ⟨g, 3, none⟩ (.int .i64 d')) g a' b' c' d' := by
  unfold Four at h ⊢
  rw [heap_setCell_same _ g 3 _ _ _ (heap_setCell_same _ g 2 _ _ _ (heap_setCell_same _ g 1 _ _ _ (heap_setCell_same w g 0 _ _ _ h)))]
  simp

theorem Four.other {w : World} {g k : Nat} {a b c d : Int} (h : Four w g a b c d) (hk : g ≠ k) (x y z u : Value) : Four ((((w.setCell ⟨k, 0, none⟩ x).setCell ⟨k, 1, none⟩ y).setCell ⟨k, 2, none⟩ z).setCell ⟨k, 3, none⟩ u) g a b c d := by
  unfold Four at h ⊢
  rw [heap_setCell_other _ _ _ _ hk, heap_setCell_other _ _ _ _ hk, heap_setCell_other _ _ _ _ hk, heap_setCell_other _ _ _ _ hk]
  exact h

theorem gr_four {w wr : World} {k : Nat} (h : w.grownBy wr none) (hk : w.heap.size ≤ k) (x y z u : Value) : w.grownBy ((((wr.setCell ⟨k, 0, none⟩ x).setCell ⟨k, 1, none⟩ y).setCell ⟨k, 2, none⟩ z).setCell ⟨k, 3, none⟩ u) none :=
  gr_set (gr_set (gr_set (gr_set h _ _ hk) _ _ hk) _ _ hk) _ _ hk

/-- A stride of X and Y. -/
def IsStride (X Y a b c d : Int) : Prop := ∃ P H N hi nx, Stride X Y P H N a b c d hi nx

/-- strideOf's loop. -/
def StrR (w : World) (X Y P H N : Int) (hv nv : Value) (wr : World) : Prop :=
  ∃ a b c d hi nx : Int, hv = .int .i64 hi ∧ nv = .int .i64 nx ∧ 0 ≤ nx ∧ Stride X Y P H N a b c d hi nx ∧ Four wr w.heap.size 0 0 0 0 ∧ Four wr (w.heap.size + 1) a b c d ∧ w.grownBy wr none

/-- What strideOf answers. -/
def StrideE (w : World) (X Y : Int) (e : Ending) (w' : World) : Prop := ∃ a b c d : Int, e = .returned (.agg #[.int .i64 a, .int .i64 b, .int .i64 c, .int .i64 d]) ∧ IsStride X Y a b c d ∧ w.grownBy w' none

theorem stride_top {X Y k : Nat} (hk : BitsOf X k) (hle : Y ≤ X) (hY : 4611686018427387904 ≤ Y) : 63 ≤ k ∧ X / 2 ^ (k - 62) < 4611686018427387904 ∧ Y / 2 ^ (k - 62) ≤ X / 2 ^ (k - 62) := by
  rcases hk with ⟨h, _⟩ | ⟨h1, h2, h3⟩
  · omega
  · have h63 : 63 ≤ k := by
      rcases Nat.lt_or_ge k 63 with h | h
      · have := Nat.pow_le_pow_right (n := 2) (by decide) (show k ≤ 62 by omega)
        omega
      · exact h
    refine ⟨h63, ?_, Nat.div_le_div_right hle⟩
    rw [Nat.div_lt_iff_lt_mul (Nat.two_pow_pos _)]
    have e : 4611686018427387904 * 2 ^ (k - 62) = 2 ^ k := by
      rw [show (4611686018427387904 : Nat) = 2 ^ 62 from by decide, ← Nat.pow_add, show 62 + (k - 62) = k from by omega]
    rw [e]
    exact h3

theorem stride_parts (X low : Nat) : (X : Int) = ((X / 2 ^ low : Nat) : Int) * ((2 ^ low : Nat) : Int) + ((X % 2 ^ low : Nat) : Int) ∧ 0 ≤ ((X % 2 ^ low : Nat) : Int) ∧ ((X % 2 ^ low : Nat) : Int) < ((2 ^ low : Nat) : Int) := by
  have h1 := Nat.div_add_mod X (2 ^ low)
  have h2 := Nat.mod_lt X (Nat.two_pow_pos low)
  refine ⟨?_, by omega, by omega⟩
  rw [← Int.natCast_mul, ← Int.natCast_add]
  congr 1
  rw [Nat.mul_comm]
  exact h1.symm

set_option maxHeartbeats 4000000 in
set_option maxRecDepth 10000 in
theorem strideOf_ws (va vb : Value) (xs ys : List Nat) (w : World) (ha : Ws w va xs) (hb : Ws w vb ys) (tx : Tr xs) (hle : val ys ≤ val xs) (hY : 4611686018427387904 ≤ val ys) (hl : xs.length ≤ 1000000000) :
    Calls Tryz.prog 107 #[va, vb] w fun e w' => StrideE w (val xs : Nat) (val ys : Nat) e w' := by
  obtain ⟨ao, ca, ea, hca, hca', _⟩ := ha.open
  obtain ⟨bo, cb, eb, hcb, hcb', _⟩ := hb.open
  have WA := hide ha
  have WB := hide hb
  have TX := hide tx
  have HLE := hide hle
  have HY := hide hY
  subst ea eb
  clear ha hb tx hle hY hca hca' hcb hcb'
  go_enter Tryz.func107, Tryz.ntmps107
  go_wp2_with fail
  have g1 : w.grownBy (w.alloc (Obj.cells #[Value.int .i64 0, Value.int .i64 0, Value.int .i64 0, Value.int .i64 0] 128)) none := gr_alloc (gr_refl _ _) _
  refine (bits_num _ (val xs) xs.length _ ⟨xs, WA.out.keep0 g1, TX.out, rfl, Nat.le_refl _⟩ hl).mono ?_
  rintro e w1 ⟨k, rfl, hk, hkb, rfl⟩
  obtain ⟨k63, kH, kN⟩ := stride_top hk HLE.out HY.out
  obtain ⟨low, hlow⟩ : ∃ low : Nat, (k : Int) - 62 = (low : Int) := ⟨k - 62, by omega⟩
  have hlow2 : k - 62 = low := by omega
  rw [hlow2] at kH kN
  have hlowb : low ≤ 40000000000 := by omega
  obtain ⟨Hn, hHn⟩ : ∃ Hn, Hn = val xs / 2 ^ low := ⟨_, rfl⟩
  obtain ⟨Nn, hNn⟩ : ∃ Nn, Nn = val ys / 2 ^ low := ⟨_, rfl⟩
  have hHb : Hn < 4611686018427387904 := by rw [hHn]; exact kH
  have hNH : Nn ≤ Hn := by rw [hHn, hNn]; exact kN
  obtain ⟨e1, e2, e3⟩ := stride_parts (val xs) low
  obtain ⟨f1, f2, f3⟩ := stride_parts (val ys) low
  have hP : (0 : Int) < ((2 ^ low : Nat) : Int) := by have := Nat.two_pow_pos low; omega
  have hXY : ((val ys : Nat) : Int) ≤ ((val xs : Nat) : Int) := Int.ofNat_le.2 HLE.out
  have hY0 : (0 : Int) < ((val ys : Nat) : Int) := by have := HY.out; omega
  rw [← hHn] at e1
  rw [← hNn] at f1
  obtain ⟨P, hPe⟩ : ∃ P : Int, P = ((2 ^ low : Nat) : Int) := ⟨_, rfl⟩
  rw [← hPe] at e1 e3 f1 f3 hP
  have HSTEP : Hid (∀ {a b c d hi nx q : Int}, Stride (val xs : Nat) (val ys : Nat) P Hn Nn a b c d hi nx → nx + c ≠ 0 → nx + d ≠ 0 → q = (hi + a) / (nx + c) → q = (hi + b) / (nx + d) → (-1073741824 < a - q * c ∧ a - q * c < 1073741824) → (-1073741824 < b - q * d ∧ b - q * d < 1073741824) →
      Stride (val xs : Nat) (val ys : Nat) P Hn Nn c d (a - q * c) (b - q * d) nx (hi - q * nx) ∧ 0 ≤ hi - q * nx ∧ hi - q * nx < nx ∧ 0 ≤ q ∧ q * nx ≤ hi + 1073741824) := by
    intro a b c d hi nx q h k1 k2 k3 k4 k5 k6
    exact h.step hP e2 e3 f2 f3 e1 f1 hXY k1 k2 k3 k4 k5 k6
  have HST := hide (Stride.start (P := P) (H := (Hn : Int)) (N := (Nn : Int)) hXY hY0 (Int.natCast_nonneg _) (Int.ofNat_le.2 hNH))
  have HH := hide hHn
  have HN := hide hNn
  have KH := hide kH
  have KN := hide kN
  clear kH kN hk hkb k63 hlow2 e1 e2 e3 f1 f2 f3 hP hXY hY0 hPe hHn hNn
  go_wp2_with fail
  refine (bitsFrom_ws _ xs low _ (WA.out.keep0 g1) KH.out hlowb).mono ?_
  rintro e w2 ⟨rfl, q2, rfl⟩
  rw [← HH.out]
  go_wp2_with fail
  refine (bitsFrom_ws _ ys low _ (WB.out.keep0 (gr_drewN g1 _)) (Nat.lt_of_le_of_lt KN.out KH.out) hlowb).mono ?_
  rintro e w3 ⟨rfl, q3, rfl⟩
  rw [← HN.out]
  clear KH KN HLE HY WA WB TX HH HN hlow g1
  go_wp2
  go_loopw [6, 7] (fun hv nv wr => Hid (StrR w (val xs : Nat) (val ys : Nat) P Hn Nn hv nv wr)) (fun _ nv _ => (intOf nv).toNat)
  case atStart =>
    refine ⟨1, 0, 0, 1, Hn, Nn, rfl, rfl, Int.natCast_nonneg _, HST.out, ?_, ?_, ?_⟩
    · show ((w.heap.push _).push _)[w.heap.size]? = _
      rw [Array.getElem?_push_lt (by simp), Array.getElem_push_eq]
    · show ((w.heap.push _).push _)[w.heap.size + 1]? = _
      have e : w.heap.size + 1 = (w.heap.push (Obj.cells #[Value.int .i64 0, Value.int .i64 0, Value.int .i64 0, Value.int .i64 0] 128)).size := by simp
      rw [e, Array.getElem?_push_size]
    · exact gr_alloc (gr_drewN (gr_alloc (gr_refl _ _) _) _) _
  case round =>
    obtain ⟨a, b, c, d, hi, nx, rfl, rfl, hnx, hS, hR, hF, hG⟩ := hrel.out
    have ha := hS.ha
    have hb := hS.hb
    have hc := hS.hc
    have hd := hS.hd
    have hle := hS.le
    have htop := hS.top
    have hra := hS.ra
    have hrb := hS.rb
    have hrc := hS.rc
    have hrd := hS.rd
    obtain ⟨s0, s1, s2, s3, sf⟩ := hF.cells
    obtain ⟨r0, r1, r2, r3, rf⟩ := hR.cells
    have sf0 := sf 0
    have sf1 := sf 1
    have sf2 := sf 2
    have sf3 := sf 3
    have rf0 := rf 0
    have rf1 := rf 1
    have rf2 := rf 2
    have rf3 := rf 3
    have SS := hide hS
    have FF := hide hF
    have GG := hide hG
    have RR := hide hR
    have HEND : Hid (StrideE w (val xs : Nat) (val ys : Nat) (.returned (.agg #[.int .i64 a, .int .i64 b, .int .i64 c, .int .i64 d])) ((((wr.setCell ⟨w.heap.size, 0, none⟩ (.int .i64 a)).setCell ⟨w.heap.size, 1, none⟩ (.int .i64 b)).setCell ⟨w.heap.size, 2, none⟩ (.int .i64 c)).setCell ⟨w.heap.size, 3, none⟩ (.int .i64 d))) :=
      ⟨a, b, c, d, rfl, ⟨P, Hn, Nn, hi, nx, hS⟩, gr_four hG (Nat.le_refl _) _ _ _ _⟩
    have HEND2 : Hid (∀ n, StrideE w (val xs : Nat) (val ys : Nat) (.returned (.agg #[.int .i64 a, .int .i64 b, .int .i64 c, .int .i64 d])) (((((wr.drewN n).setCell ⟨w.heap.size, 0, none⟩ (.int .i64 a)).setCell ⟨w.heap.size, 1, none⟩ (.int .i64 b)).setCell ⟨w.heap.size, 2, none⟩ (.int .i64 c)).setCell ⟨w.heap.size, 3, none⟩ (.int .i64 d))) :=
      fun n => ⟨a, b, c, d, rfl, ⟨P, Hn, Nn, hi, nx, hS⟩, gr_four (gr_drewN hG n) (Nat.le_refl _) _ _ _ _⟩
    clear hS hF hG hR sf rf hrel HST
    by_cases k1 : nx + c = 0
    · have b1 : (nx + c != 0) = false := by rw [bne_eq_false_iff_eq]; exact k1
      clear k1
      go_wp2
      refine bodyPost_ret (v := .agg #[.int .i64 a, .int .i64 b, .int .i64 c, .int .i64 d]) (by simp [results, Tryz.results107, go_sem, r0, r1, r2, r3]) rfl HEND.out
    · have b1 : (nx + c != 0) = true := by rw [bne_iff_ne]; exact k1
      by_cases k2 : nx + d = 0
      · have b2 : (nx + d != 0) = false := by rw [bne_eq_false_iff_eq]; exact k2
        clear k1 k2
        go_wp2
        refine bodyPost_ret (v := .agg #[.int .i64 a, .int .i64 b, .int .i64 c, .int .i64 d]) (by simp [results, Tryz.results107, go_sem, r0, r1, r2, r3]) rfl HEND.out
      · have b2 : (nx + d != 0) = true := by rw [bne_iff_ne]; exact k2
        have p1 : 0 < nx + c := by omega
        have p2 : 0 < nx + d := by omega
        obtain ⟨q, hq⟩ : ∃ q, (hi + a) / (nx + c) = q := ⟨_, rfl⟩
        obtain ⟨q', hq'⟩ : ∃ q, (hi + b) / (nx + d) = q := ⟨_, rfl⟩
        have t1 : (hi + a).tdiv (nx + c) = q := by rw [Int.tdiv_eq_ediv_of_nonneg hra]; exact hq
        have t2 : (hi + b).tdiv (nx + d) = q' := by rw [Int.tdiv_eq_ediv_of_nonneg hrb]; exact hq'
        have q0 : 0 ≤ q := by rw [← hq]; exact Int.ediv_nonneg hra (by omega)
        have q0' : 0 ≤ q' := by rw [← hq']; exact Int.ediv_nonneg hrb (by omega)
        have q1 : q ≤ hi + a := by rw [← hq]; exact Int.ediv_le_self _ hra
        have q1' : q' ≤ hi + b := by rw [← hq']; exact Int.ediv_le_self _ hrb
        have z1 : (nx + c == 0) = false := beq_eq_false_iff_ne.2 k1
        have z2 : (nx + d == 0) = false := beq_eq_false_iff_ne.2 k2
        have K1 := hide k1
        have K2 := hide k2
        have HQ := hide hq
        have HQ' := hide hq'
        clear hq hq' k1 k2
        by_cases k3 : 1073741824 ≤ q
        · go_wp2
          refine bodyPost_ret (v := .agg #[.int .i64 a, .int .i64 b, .int .i64 c, .int .i64 d]) (by simp [results, Tryz.results107, go_sem, r0, r1, r2, r3]) rfl HEND.out
        · have k3' : q < 1073741824 := by omega
          by_cases k4 : q = q'
          · have b4 : (q != q') = false := by rw [bne_eq_false_iff_eq]; exact k4
            obtain ⟨m1, m2⟩ := prod_bd2 q c q0 k3' hc.1 hc.2
            obtain ⟨m3, m4⟩ := prod_bd2 q d q0 k3' hd.1 hd.2
            obtain ⟨C, hC⟩ : ∃ C, a - q * c = C := ⟨_, rfl⟩
            obtain ⟨D, hD⟩ : ∃ D, b - q * d = D := ⟨_, rfl⟩
            obtain ⟨M, hM⟩ : ∃ M, max4 C (-C) D (-D) = M := ⟨_, rfl⟩
            have hmax : ∀ (ts : Array TypeId) (t : TypeId) (w : World), (Builtin.max_ ts t #[.int .i64 C, .int .i64 (-C), .int .i64 D, .int .i64 (-D)]).run Tryz.prog w = .ok (.int .i64 M) w := by
              intro ts t w
              rw [← hM]
              exact run_max4 w ts t .i64 C (-C) D (-D)
            have hCb : -1152921505680588800 < C ∧ C < 1152921505680588800 := by omega
            have hDb : -1152921505680588800 < D ∧ D < 1152921505680588800 := by omega
            have HK4 := hide k4
            have HM := hide hM
            clear k4 hM
            by_cases k5 : 1073741824 ≤ M
            · go_wp2
              go_quiet (fail)
              go_wp2
              refine bodyPost_ret (v := .agg #[.int .i64 a, .int .i64 b, .int .i64 c, .int .i64 d]) (by simp [results, Tryz.results107, go_sem, r0, r1, r2, r3]) rfl (HEND2.out _)
            · have hlt : max4 C (-C) D (-D) < 1073741824 := by rw [HM.out]; omega
              rw [max4_lt] at hlt
              obtain ⟨n1, n2, n3, n4⟩ := hlt
              obtain ⟨st, st1, st2, st3, st4⟩ := HSTEP.out SS.out K1.out K2.out HQ.out.symm (by rw [HK4.out]; exact HQ'.out.symm) (by rw [hC]; omega) (by rw [hD]; omega)
              rw [hC, hD] at st
              have st0 : 0 ≤ q * nx := Int.mul_nonneg q0 hnx
              have ST := hide st
              clear st
              go_wp2
              go_quiet (fail)
              go_wp2
              go_roundw
              case rel => exact ⟨c, d, C, D, nx, hi - q * nx, rfl, rfl, st1, ST.out, Four.other (w := wr.drewN _) RR.out (by omega) _ _ _ _, Four.set (w := wr.drewN _) FF.out, gr_four (gr_drewN GG.out _) (by omega) _ _ _ _⟩
              case measure => simp [intOf]; omega
          · have b4 : (q != q') = true := by rw [bne_iff_ne]; exact k4
            clear k4
            go_wp2
            refine bodyPost_ret (v := .agg #[.int .i64 a, .int .i64 b, .int .i64 c, .int .i64 d]) (by simp [results, Tryz.results107, go_sem, r0, r1, r2, r3]) rfl HEND.out
end Go.Proofs.YtgdiepfknfnmjaaGreatDoor
