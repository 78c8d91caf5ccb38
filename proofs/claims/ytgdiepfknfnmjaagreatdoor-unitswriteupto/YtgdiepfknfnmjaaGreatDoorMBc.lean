/- voltaicbig: div: one round. (Made by divgen.py.) -/
import Derived.Test.YtgdiepfknfnmjaaGreatDoorMBb
import Derived.Deep.Light
import Derived.Deep.CutBlock
import Derived.Deep.DeepCutAuto
import Derived.Deep.RegionWith
import Derived.Deep.LoopGhost
namespace Go.Proofs.YtgdiepfknfnmjaaGreatDoor
open Go.RowKit
set_option linter.unusedVariables false

theorem wl_take (us W D : List Nat) (j : Nat) (hj : j ≤ us.length) : (us.take j ++ W ++ D).take j = us.take j := by
  have hl : (us.take j).length = j := by rw [List.length_take]; omega
  rw [List.append_assoc, List.take_append_of_le_length (by omega), List.take_of_length_le (by omega)]
theorem wl_drop (us W D : List Nat) (j : Nat) (hj : j ≤ us.length) : (us.take j ++ W ++ D).drop j = W ++ D := by
  have hl : (us.take j).length = j := by rw [List.length_take]; omega
  rw [List.append_assoc, List.drop_append_of_le_length (by omega), List.drop_of_length_le (by omega), List.nil_append]
theorem wl_drop2 (us W D : List Nat) (j k : Nat) (hj : j ≤ us.length) (hk : W.length = k) : (us.take j ++ W ++ D).drop (j + k) = D := by
  rw [← List.drop_drop, wl_drop us W D j hj, List.drop_append_of_le_length (by omega), List.drop_of_length_le (by omega), List.nil_append]
theorem wl_get (us W D : List Nat) (j i : Nat) (hj : j ≤ us.length) (hi : i < W.length) : (us.take j ++ W ++ D)[j + i]? = W[i]? := by
  rw [← List.getElem?_drop, wl_drop us W D j hj, List.getElem?_append_left hi]

theorem DivInv.done {w wr wr' : World} {gu gq : Nat} {vs : List Nat} {N A j : Nat} {us qs W : List Nat} (h : DivInv w wr gu gq vs N A (j + 1) us qs) (sv : Sm vs) (hj : j + vs.length < us.length) (hq : val (us.drop j) / val vs < 4294967296)
    (hW : W.length = vs.length + 1) (sW : Sm W) (vW : val W = val (us.drop j) % val vs) (a1 : Arr wr' gu (us.take j ++ W ++ us.drop (j + (vs.length + 1)))) (a2 : Arr wr' gq (List.replicate (j + 1) 0 ++ qs)) (hg : w.grownBy wr' none)
    (hgq : w.heap.size ≤ gq) (hne : gq ≠ gu) (z : Int) (hz : z = ((val (us.drop j) / val vs : Nat) : Int)) :
    DivInv w (wr'.setCell ⟨gq, j, none⟩ (.int .u32 z)) gu gq vs N A j (us.take j ++ W ++ us.drop (j + (vs.length + 1))) ((val (us.drop j) / val vs) :: qs) := by
  have h' := h
  obtain ⟨i1, i2, i3, i4, i5, i6, i7, i8, i9⟩ := h'
  have hz0 := (win_val sv i3 hj i8).2.2
  refine DivInv.next h hq (by simp [hW]; omega) (wl_take _ _ _ _ (by omega)) ?_ (((i3.take _).append sW).append (i3.drop _)) a1 a2 hg hgq hne z hz
  rw [wl_drop _ _ _ _ (by omega), val_append, hz0, vW]
  simp

theorem back_start {w wr : World} {gu gq : Nat} {us qs vs : List Nat} {j : Nat} (h1 : Arr wr gu us) (h2 : Arr wr gq qs) (hg : w.grownBy wr none) : BackInv w wr gu gq us qs vs j 0 0 :=
  ⟨[], rfl, Sm.nil, by rw [List.append_nil, Nat.add_zero, List.take_append_drop]; exact h1, h2, hg, by simp [val]⟩
theorem sub_start {w wr : World} {gu gq : Nat} {us qs vs : List Nat} {j g : Nat} (h1 : Arr wr gu us) (h2 : Arr wr gq qs) (hg : w.grownBy wr none) : SubInv w wr gu gq us qs vs j g 0 0 0 :=
  ⟨[], rfl, Sm.nil, by rw [List.append_nil, Nat.add_zero, List.take_append_drop]; exact h1, h2, hg, by simp [val]⟩

set_option maxHeartbeats 4000000 in
set_option maxRecDepth 100000 in
theorem round_block (K : Act → World → Prop) (Q' : Exit → Act → World → Prop) (w wr : World) (gu gq vb voff cv N M A j n vt vn : Nat) (vs us qs : List Nat)
    (hD : DivInv w wr gu gq vs N A (j + 1) us qs) (hV : Hid (VC vb voff vs wr)) (sv : Hid (Sm vs)) (hn : Hid (vs.length = n + 2)) (evt : Hid (vs[n + 1]? = some vt)) (evn : Hid (vs[n]? = some vn)) (hvt31 : 2147483648 ≤ vt) (hvtb : vt < 4294967296) (hvnb : vn < 4294967296)
    (hgu : w.heap.size ≤ gu) (hgq : w.heap.size ≤ gq) (hqu : gu < gq) (hvbu : vb < gu) (hjN : j + n + 2 < N) (hjM : j < M) (hN : N ≤ 1000000000) (hM : M ≤ N) (hcv : n + 2 ≤ cv) (hcv2 : cv ≤ 9223372036854775807)
    (c0 c1 c2 c3 c4 c5 c6 c7 c8 c9 c10 c14 c19 c20 c21 c22 c23 c24 c25 c26 c27 c28 c29 c30 c31 c32 c33 c34 c35 c36 c37 c38 c39 c40 c41 c42 c43 c44 c45 c46 c47 c48 c49 c50 c51 c52 c53 c54 c55 c56 c57 c58 c59 c60 c61 c62 c63 c64 c65 c66 c67 c68 c69 c70 c71 c72 c73 c74 c75 c76 c77 c78 c79 c80 c81 c82 c83 c84 c85 c86 c87 c88 c89 c90 c91 c92 c93 c94 c95 c96 c97 c98 c99 c100 c101 c102 c103 c104 c105 c106 c107 c108 c109 c110 c111 c112 c113 c114 c115 c116 c117 c118 c119 c120 c121 c122 c123 c124 c125 c126 c127 c128 c129 c130 c131 c132 c133 c134 c135 c136 c137 c138 c139 c140 c141 c142 c143 c144 c145 c146 c147 c148 c149 c150 c151 c152 c153 c154 c155 c156 c157 c158 c159 c160 c161 c162 c163 c164 c165 c166 c167 c168 c169 c170 c171 c172 c173 c174 c175 c176 c177 c178 c179 c180 c181 c182 c183 c184 c185 c186 c187 c188 c189 c190 c191 c192 c193 c194 c195 c196 c197 c198 c199 c200 c201 c202 c203 c204 c205 c206 c207 c208 c209 c210 c211 c212 c213 c214 c215 c216 c217 c218 c219 c220 c221 c222 c223 c224 c225 c226 c227 c228 c229 c230 c231 c232 c233 c234 c235 c236 c237 c238 c239 c240 c241 c242 c243 c244 c245 c246 c247 c248 c249 c250 c251 c252 c253 c254 c255 c256 c257 c258 c259 c260 c261 c262 c263 c264 c265 c266 c267 c268 c269 c270 c271 c272 : Value)
    (hK : Hid (∀ (wr' : World) (us2 qs2 : List Nat) (u19 u20 u21 u22 u23 u24 u25 u26 u27 u113 u114 u115 u116 u117 u118 u119 u120 u121 u122 u123 u124 u125 u126 u127 u128 u129 u130 u131 u132 u133 u134 u135 u136 u137 u138 u139 u140 u141 u142 u143 u144 u145 u146 u147 u148 u149 u150 u151 u152 u153 u154 u155 u156 u157 u158 u159 u160 u161 u162 u163 u164 u165 u166 u167 u168 u169 u170 u171 u172 u173 u174 u175 u176 u177 u178 u179 u180 u181 u182 u183 u184 u185 u186 u187 u188 u189 u190 u191 u192 u193 u194 u195 u196 u197 u198 u199 u200 u201 u202 u203 u204 u205 u206 u207 u208 u209 u210 u211 u212 u213 u214 u215 u216 u217 u218 u219 u220 u221 u222 u223 u224 u225 u226 u227 u228 u229 u230 u231 u232 u233 u234 u235 u236 u237 u238 u239 u240 u241 u242 u243 u244 u245 u246 u247 u248 u249 u250 u251 u252 u253 u254 u255 u256 u257 u258 u259 u260 u261 u262 u263 u264 u265 u266 : Value), DivInv w wr' gu gq vs N A j us2 qs2 → VC vb voff vs wr' → K ⟨#[c0, c1, c2, c3, c4, c5, c6, c7, c8, c9, c10, .slice (some ⟨vb, voff, none⟩) (n + 2) cv, .slice (some ⟨gu, 0, none⟩) N N, .int .i64 (n + 2), c14, .slice (some ⟨gq, 0, none⟩) M M, .int .u64 vt, .int .u64 vn, .int .i64 j, u19, u20, u21, u22, u23, u24, u25, u26, u27, c28, c29, c30, c31, c32, c33, c34, c35, c36, c37, c38, c39, c40, c41, c42, c43, c44, c45, c46, c47, c48, c49, c50, c51, c52, c53, c54, c55, c56, c57, c58, c59, c60, c61, c62, c63, c64, c65, c66, c67, c68, c69, c70, c71, c72, c73, c74, c75, c76, c77, c78, c79, c80, c81, c82, c83, c84, c85, c86, c87, c88, c89, c90, c91, c92, c93, c94, c95, c96, c97, c98, c99, c100, c101, c102, c103, c104, c105, c106, c107, c108, c109, c110, c111, c112, u113, u114, u115, u116, u117, u118, u119, u120, u121, u122, u123, u124, u125, u126, u127, u128, u129, u130, u131, u132, u133, u134, u135, u136, u137, u138, u139, u140, u141, u142, u143, u144, u145, u146, u147, u148, u149, u150, u151, u152, u153, u154, u155, u156, u157, u158, u159, u160, u161, u162, u163, u164, u165, u166, u167, u168, u169, u170, u171, u172, u173, u174, u175, u176, u177, u178, u179, u180, u181, u182, u183, u184, u185, u186, u187, u188, u189, u190, u191, u192, u193, u194, u195, u196, u197, u198, u199, u200, u201, u202, u203, u204, u205, u206, u207, u208, u209, u210, u211, u212, u213, u214, u215, u216, u217, u218, u219, u220, u221, u222, u223, u224, u225, u226, u227, u228, u229, u230, u231, u232, u233, u234, u235, u236, u237, u238, u239, u240, u241, u242, u243, u244, u245, u246, u247, u248, u249, u250, u251, u252, u253, u254, u255, u256, u257, u258, u259, u260, u261, u262, u263, u264, u265, u266, c267, c268, c269, c270, c271, c272], []⟩ wr')) :
    Code.wp Tryz.prog ((Tryz.f130.body.bind (findBlock 1)).getD .skip) (Exit.then K Q') ⟨#[c0, c1, c2, c3, c4, c5, c6, c7, c8, c9, c10, .slice (some ⟨vb, voff, none⟩) (n + 2) cv, .slice (some ⟨gu, 0, none⟩) N N, .int .i64 (n + 2), c14, .slice (some ⟨gq, 0, none⟩) M M, .int .u64 vt, .int .u64 vn, .int .i64 j, c19, c20, c21, c22, c23, c24, c25, c26, c27, c28, c29, c30, c31, c32, c33, c34, c35, c36, c37, c38, c39, c40, c41, c42, c43, c44, c45, c46, c47, c48, c49, c50, c51, c52, c53, c54, c55, c56, c57, c58, c59, c60, c61, c62, c63, c64, c65, c66, c67, c68, c69, c70, c71, c72, c73, c74, c75, c76, c77, c78, c79, c80, c81, c82, c83, c84, c85, c86, c87, c88, c89, c90, c91, c92, c93, c94, c95, c96, c97, c98, c99, c100, c101, c102, c103, c104, c105, c106, c107, c108, c109, c110, c111, c112, c113, c114, c115, c116, c117, c118, c119, c120, c121, c122, c123, c124, c125, c126, c127, c128, c129, c130, c131, c132, c133, c134, c135, c136, c137, c138, c139, c140, c141, c142, c143, c144, c145, c146, c147, c148, c149, c150, c151, c152, c153, c154, c155, c156, c157, c158, c159, c160, c161, c162, c163, c164, c165, c166, c167, c168, c169, c170, c171, c172, c173, c174, c175, c176, c177, c178, c179, c180, c181, c182, c183, c184, c185, c186, c187, c188, c189, c190, c191, c192, c193, c194, c195, c196, c197, c198, c199, c200, c201, c202, c203, c204, c205, c206, c207, c208, c209, c210, c211, c212, c213, c214, c215, c216, c217, c218, c219, c220, c221, c222, c223, c224, c225, c226, c227, c228, c229, c230, c231, c232, c233, c234, c235, c236, c237, c238, c239, c240, c241, c242, c243, c244, c245, c246, c247, c248, c249, c250, c251, c252, c253, c254, c255, c256, c257, c258, c259, c260, c261, c262, c263, c264, c265, c266, c267, c268, c269, c270, c271, c272], []⟩ wr := by
  have ID := hide hD
  obtain ⟨i1, i2, i3, i4, i5, i6, i7, i8, i9⟩ := hD
  obtain ⟨ua, eua⟩ : ∃ x, us[j + (n + 2)]? = some x := ⟨_, List.getElem?_eq_getElem (by omega)⟩
  obtain ⟨ub', eub⟩ : ∃ x, us[j + (n + 1)]? = some x := ⟨_, List.getElem?_eq_getElem (by omega)⟩
  obtain ⟨uc, euc⟩ : ∃ x, us[j + n]? = some x := ⟨_, List.getElem?_eq_getElem (by omega)⟩
  have ca' : wr.cell? ⟨gu, j + (n + 2), none⟩ = some (.int .u32 (ua : Nat)) := by rw [i5.cell _ (by omega), (List.getElem?_eq_some_iff.1 eua).2]
  have cb' : wr.cell? ⟨gu, j + (n + 1), none⟩ = some (.int .u32 (ub' : Nat)) := by rw [i5.cell _ (by omega), (List.getElem?_eq_some_iff.1 eub).2]
  have cc' : wr.cell? ⟨gu, j + (n + 2) - 2, none⟩ = some (.int .u32 (uc : Nat)) := by rw [show j + (n + 2) - 2 = j + n from by omega, i5.cell _ (by omega), (List.getElem?_eq_some_iff.1 euc).2]
  have CC := hide cc'
  have hua : ua < 4294967296 := by have := i3.get (j + (n + 2)) (by omega); rw [(List.getElem?_eq_some_iff.1 eua).2] at this; exact this
  have hub : ub' < 4294967296 := by have := i3.get (j + (n + 1)) (by omega); rw [(List.getElem?_eq_some_iff.1 eub).2] at this; exact this
  have huc : uc < 4294967296 := by have := i3.get (j + n) (by omega); rw [(List.getElem?_eq_some_iff.1 euc).2] at this; exact this
  have hor := or_word ua ub' hua hub
  obtain ⟨hh, ehh⟩ : ∃ x, x = ua * 4294967296 + ub' := ⟨_, rfl⟩
  rw [← ehh] at hor
  have hhb : hh < 18446744073709551616 := by omega
  have KK := hide (DivInv.kd ID.out sv.out hn.out vt vn ua ub' uc evt.out evn.out eua eub euc hvt31)
  rw [← ehh] at KK
  have hgb : hh / vt < 18446744073709551616 := Nat.lt_of_le_of_lt (Nat.div_le_self _ _) hhb
  have hrb : hh % vt < 4294967296 := Nat.lt_trans (Nat.mod_lt _ (by omega)) hvtb
  obtain ⟨g0, eg0⟩ : ∃ x, x = hh / vt := ⟨_, rfl⟩
  obtain ⟨r0, er0⟩ : ∃ x, x = hh % vt := ⟨_, rfl⟩
  have hq1 : ((hh : Int) / (vt : Int)) = (g0 : Int) := by rw [eg0, Int.natCast_ediv]
  have HQ2 : Hid (((hh : Int) % (vt : Int)) = (r0 : Int)) := by rw [er0, Int.natCast_emod]; rfl
  rw [← eg0] at hgb
  rw [← er0] at hrb
  have E0 : Hid (g0 * vt + r0 = hh ∧ val (us.drop j) / val vs ≤ g0) := by
    rw [eg0, er0, Nat.mul_comm]
    exact ⟨Nat.div_add_mod hh vt, KK.out.init⟩
  have GB := hide hgb
  have RB := hide hrb
  have UL := hide i1
  have SU := hide i3
  have AU := hide i5
  have AQ := hide i6
  have GR := hide i7
  have EUA := hide eua
  have hjN2 : j + vs.length < us.length := by rw [hn.out]; omega
  have JN2 := hide hjN2
  clear i1 i2 i3 i4 i5 i6 i7 i8 i9 eua eub euc ehh eg0 er0 cc' hrb hjN2
  conv => arg 2; whnf
  go_wp2
  go_quiet (fail)
  go_wp2
  go_quiet (fail)
  go_upto_block 2 with fail
  rw [HQ2.out]
  refine guess_block _ _ _ gu N N j n (val (us.drop j)) (val vs) _ vt vn _ hh uc _ g0 r0 KK hvtb hvnb huc ?cell (by omega) hN E0 GB.out RB.out _ _ _ _ _ _ _ _ _ _ _ _ _ _ _ _ _ _ _ _ _ _ _ _ _ _ _ _ _ _ _ _ _ _ _ _ _ _ _ _ _ _ _ _ _ _ _ _ _ _ _ _ _ _ _ _ _ _ _ _ _ _ _ _ _ _ _ _ _ _ _ _ _ _ _ _ _ _ _ _ _ _ _ _ _ _ _ _ _ _ _ _ _ _ _ _ _ _ _ _ _ _ _ _ _ _ _ _ _ _ _ _ _ _ _ _ _ _ _ _ _ _ _ _ _ _ _ _ _ _ _ _ _ _ _ _ _ _ _ _ _ _ _ _ _ _ _ _ _ _ _ _ _ _ _ _ _ _ _ _ _ _ _ _ _ _ _ _ _ _ _ _ _ _ _ _ _ _ _ _ _ _ _ _ _ _ _ _ _ _ _ _ _ _ _ _ _ _ _ _ _ _ _ _ _ _ _ _ _ _ _ _ _ _ _ _ _ _ _ _ _ _ _ _ _ _ _ _ _ _ _ _ _ _ _ _ _ _ _ _ _ _ _ _ _ _ _ _ _ _ _ _ _ _ _ _ _ _ _ _ _ _ _ _ _ _ (hide ?_)
  case cell => exact CC.out
  clear E0 GB RB hgb hq1 HQ2 CC ca' cb' hor hhb evt evn hvt31 hvtb hvnb
  intro g gz v21 v136 v137 v138 v139 v140 v141 v142 v143 v144 v145 v146 v147 v148 v149 v150 v151 v152 v153 v154 v155 v156 v157 v158 v159 v160 v161 hgz hg hgq1 hgq2
  subst hgz
  have G1 := hide hgq1
  have G2 := hide hgq2
  clear hgq1 hgq2
  go_upto_block 4 with fail
  refine sub_block _ _ w _ gu gq vb voff cv N N j n g us (List.replicate (j + 1) 0 ++ qs) vs hn.out UL.out hcv hcv2 hg (by omega) hN SU sv hgu (by omega) (by omega) (hide ?s0) (hide ?v0) _ _ _ _ _ _ _ _ _ _ _ _ _ _ _ _ _ _ _ _ _ _ _ _ _ _ _ _ _ _ _ _ _ _ _ _ _ _ _ _ _ _ _ _ _ _ _ _ _ _ _ _ _ _ _ _ _ _ _ _ _ _ _ _ _ _ _ _ _ _ _ _ _ _ _ _ _ _ _ _ _ _ _ _ _ _ _ _ _ _ _ _ _ _ _ _ _ _ _ _ _ _ _ _ _ _ _ _ _ _ _ _ _ _ _ _ _ _ _ _ _ _ _ _ _ _ _ _ _ _ _ _ _ _ _ _ _ _ _ _ _ _ _ _ _ _ _ _ _ _ _ _ _ _ _ _ _ _ _ _ _ _ _ _ _ _ _ _ _ _ _ _ _ _ _ _ _ _ _ _ _ _ _ _ _ _ _ _ _ _ _ _ _ _ _ _ _ _ _ _ _ _ _ _ _ _ _ _ _ _ _ _ _ _ _ _ _ _ _ _ _ _ _ _ _ _ _ _ _ _ _ _ _ _ _ _ _ _ _ _ _ _ _ _ _ _ _ _ _ _ _ _ _ _ _ _ _ _ _ _ _ _ _ _ _ (hide ?_)
  case s0 => exact sub_start AU.out AQ.out (gr_drewN GR.out _)
  case v0 => exact hV.out.drewN _
  clear AU AQ GR hV
  intro wr2 c d cz dz v24 v25 v162 v163 v164 v165 v166 v167 v168 v169 v170 v171 v172 v173 v174 v175 v176 v177 v178 v179 v180 v181 v182 v183 v184 v185 v186 v187 v188 v189 v190 v191 v192 v193 v194 v195 v196 v197 v198 v199 hcz hdz hc hd hS hVC
  subst hcz hdz
  have ca2 : wr2.cell? ⟨gu, j + (n + 2), none⟩ = some (.int .u32 (ua : Nat)) := by
    obtain ⟨mid, h1, h2, h3, h4, h5, h6⟩ := hS
    have hju : j + (n + 2) < us.length := by rw [UL.out]; omega
    have hl := win_length us mid j (n + 2) h1 (by omega)
    rw [h3.cell (j + (n + 2)) (by rw [hl]; exact hju), (List.getElem?_eq_some_iff.1 (win_get us mid j (n + 2) h1 hju)).2, (List.getElem?_eq_some_iff.1 EUA.out).2]
  have cf2 : wr2.frozen? ⟨gu, j + (n + 2), none⟩ = false := by
    obtain ⟨mid, h1, h2, h3, h4, h5, h6⟩ := hS
    exact h3.free _
  obtain ⟨T, x, e, t1, t2, t3, t4, t5, t6, t7⟩ := sub_word ua c d hua hc hd
  have hju : j + vs.length < us.length := JN2.out
  have ST := hide hS
  rw [← hn.out] at hS
  obtain ⟨W, w1, w2, w3, w4, w5, w6, w7⟩ := SubInv.top hS hju hgu (by omega) x e ((T : Int) % 4294967296) (by omega) t6 (by
    have : us[j + vs.length] = ua := by
      have h := EUA.out
      rw [← hn.out] at h
      exact (List.getElem?_eq_some_iff.1 h).2
    rw [this]
    exact t7)
  rw [hn.out] at w3 w4 w5
  have hUw := (win_val sv.out SU.out hju (by obtain ⟨_, _, _, _, _, _, _, i8, _⟩ := ID.out; exact i8)).1
  rw [hUw] at w6
  have W1 := hide w1
  have W2 := hide w2
  have W3 := hide w3
  have W4 := hide w4
  have W5 := hide w5
  have W6 := hide w6
  have W7 := hide w7
  have VC2 := hide hVC
  have T3 := hide t3
  have hV0 : 0 < val vs := KK.out.pos
  have HV0 := hide hV0
  have QL := hide KK.out.q_lt
  clear w1 w2 w3 w4 w5 w6 w7 hVC hS t4 t5 t6 t7 hUw hV0 hju KK
  by_cases he : e = 0
  · have hte : (((T : Int) / 9223372036854775808) != 0) = false := by rw [bne_eq_false_iff_eq]; omega
    obtain ⟨d1, d2⟩ := digit_right W6.out he G1.out HV0.out
    have D1 := hide d1
    have D2 := hide d2
    have a2 := W4.out
    have cq : ∃ v, (wr2.setCell ⟨gu, j + (n + 2), none⟩ (.int .u32 ((T : Int) % 4294967296))).cell? ⟨gq, j, none⟩ = some v := ⟨_, a2.cell j (by simp; omega)⟩
    have cfq := a2.free j
    obtain ⟨v0, cq⟩ := cq
    clear d1 d2 a2 he t3
    go_wp2_with fail
    refine hK.out _ _ _ _ _ _ _ _ _ _ _ _ _ _ _ _ _ _ _ _ _ _ _ _ _ _ _ _ _ _ _ _ _ _ _ _ _ _ _ _ _ _ _ _ _ _ _ _ _ _ _ _ _ _ _ _ _ _ _ _ _ _ _ _ _ _ _ _ _ _ _ _ _ _ _ _ _ _ _ _ _ _ _ _ _ _ _ _ _ _ _ _ _ _ _ _ _ _ _ _ _ _ _ _ _ _ _ _ _ _ _ _ _ _ _ _ _ _ _ _ _ _ _ _ _ _ _ _ _ _ _ _ _ _ _ _ _ _ _ _ _ _ _ _ _ _ _ _ _ _ _ _ _ _ _ _ _ _ _ _ _ _ _ _ _ _ (DivInv.done ID.out sv.out JN2.out QL.out W1.out W2.out D2.out (by rw [hn.out]; exact W3.out) W4.out W5.out hgq (by omega) (g : Int) (by rw [D1.out])) ?_
    exact VC.set (VC.set VC2.out _ _ _ (by omega)) _ _ _ (by omega)
  · have he1 : e = 1 := by omega
    have hte : (((T : Int) / 9223372036854775808) != 0) = true := by rw [bne_iff_ne]; omega
    have hpW := val_lt W2.out
    rw [W1.out] at hpW
    obtain ⟨d1, d2, d3⟩ := digit_over W6.out he1 G1.out G2.out hpW HV0.out
    have D1 := hide d1
    have D3 := hide d3
    have hg1 : 1 ≤ g := d2
    obtain ⟨us3, e3⟩ : ∃ l, l = us.take j ++ W ++ us.drop (j + (vs.length + 1)) := ⟨_, rfl⟩
    have A3 := W3.out
    rw [← hn.out, ← e3, hn.out] at A3
    have hul := UL.out
    have l3 : us3.length = N := by rw [e3]; simp [W1.out]; have := JN2.out; omega
    have s3 : Sm us3 := by rw [e3]; exact ((SU.out.take _).append W2.out).append (SU.out.drop _)
    have hjl : j ≤ us.length := by omega
    have g3 : us3[j + (n + 2)]? = some x := by
      rw [e3, wl_get us W _ j (n + 2) hjl (by rw [W1.out, hn.out]; omega), ← hn.out]
      exact W7.out
    have k3 : us3.take j = us.take j := by rw [e3]; exact wl_take _ _ _ _ hjl
    have k4 : us3.drop j = W ++ us.drop (j + (vs.length + 1)) := by rw [e3]; exact wl_drop _ _ _ _ hjl
    have k5 : us3.drop (j + (vs.length + 1)) = us.drop (j + (vs.length + 1)) := by
      have := wl_drop2 us W (us.drop (j + (vs.length + 1))) j (vs.length + 1) hjl W1.out
      rw [← e3] at this
      exact this
    have hR : val (us.drop j) % val vs < 4294967296 ^ vs.length := Nat.lt_trans (Nat.mod_lt _ HV0.out) (val_lt sv.out)
    have HRR := hide hR
    have S3 := hide s3
    have L3 := hide l3
    have AA3 := hide A3
    have K3 := hide k3
    have K4 := hide k4
    have K5 := hide k5
    have GG3 := hide g3
    clear d1 d2 d3 he he1 t3 hpW e3 A3 hul l3 s3 hjl g3 k3 k4 k5 hR G1 G2 W7 W6
    go_upto_block 6 with fail
    refine back_block _ _ w _ gu gq vb voff cv N N j n us3 (List.replicate (j + 1) 0 ++ qs) vs hn.out L3.out hcv hcv2 (by omega) hN S3 sv hgu (by omega) (by omega) (hide ?b0) (hide ?v1) _ _ _ _ _ _ _ _ _ _ _ _ _ _ _ _ _ _ _ _ _ _ _ _ _ _ _ _ _ _ _ _ _ _ _ _ _ _ _ _ _ _ _ _ _ _ _ _ _ _ _ _ _ _ _ _ _ _ _ _ _ _ _ _ _ _ _ _ _ _ _ _ _ _ _ _ _ _ _ _ _ _ _ _ _ _ _ _ _ _ _ _ _ _ _ _ _ _ _ _ _ _ _ _ _ _ _ _ _ _ _ _ _ _ _ _ _ _ _ _ _ _ _ _ _ _ _ _ _ _ _ _ _ _ _ _ _ _ _ _ _ _ _ _ _ _ _ _ _ _ _ _ _ _ _ _ _ _ _ _ _ _ _ _ _ _ _ _ _ _ _ _ _ _ _ _ _ _ _ _ _ _ _ _ _ _ _ _ _ _ _ _ _ _ _ _ _ _ _ _ _ _ _ _ _ _ _ _ _ _ _ _ _ _ _ _ _ _ _ _ _ _ _ _ _ _ _ _ _ _ _ _ _ _ _ _ _ _ _ _ _ _ _ _ _ _ _ _ _ _ _ _ _ _ _ _ _ _ _ _ _ _ _ _ _ _ _ (hide ?_)
    case b0 => exact back_start AA3.out W4.out W5.out
    case v1 => exact VC.set VC2.out _ _ _ (by omega)
    intro wr4 c4 cz4 v27 v223 v224 v225 v226 v227 v228 v229 v230 v231 v232 v233 v234 v235 v236 v237 v238 v239 v240 v241 v242 v243 v244 v245 v246 v247 v248 v249 v250 v251 hcz4 hc4 hB hVC4
    subst hcz4
    clear AA3 W4 W5 VC2 W3 ca2 cf2 hte t1
    have ca4 : wr4.cell? ⟨gu, j + (n + 2), none⟩ = some (.int .u32 (x : Nat)) := by
      obtain ⟨mid, h1, h2, h3, h4, h5, h6⟩ := hB
      have hju : j + (n + 2) < us3.length := by rw [L3.out]; omega
      have hl := win_length us3 mid j (n + 2) h1 (by omega)
      rw [h3.cell (j + (n + 2)) (by rw [hl]; exact hju), (List.getElem?_eq_some_iff.1 (win_get us3 mid j (n + 2) h1 hju)).2, (List.getElem?_eq_some_iff.1 GG3.out).2]
    have cf4 : wr4.frozen? ⟨gu, j + (n + 2), none⟩ = false := by
      obtain ⟨mid, h1, h2, h3, h4, h5, h6⟩ := hB
      exact h3.free _
    have hju3 : j + vs.length < us3.length := by rw [L3.out, hn.out]; omega
    have hxg : us3[j + vs.length] = x := by
      have h := GG3.out
      rw [← hn.out] at h
      exact (List.getElem?_eq_some_iff.1 h).2
    have hWt : val ((us3.drop j).take (vs.length + 1)) + val vs = val (us.drop j) % val vs + 4294967296 ^ (vs.length + 1) := by
      rw [K4.out, List.take_append_of_le_length (by rw [W1.out]; exact Nat.le_refl _), List.take_of_length_le (by rw [W1.out]; exact Nat.le_refl _)]
      exact D3.out
    rw [← hn.out] at hB
    obtain ⟨Y, y1, y2, y3, y4, y5, y6⟩ := BackInv.top hB hju3 hgu (by omega) hxg hWt HRR.out (((x : Int) + (c4 : Int)) % 4294967296) (by omega)
    rw [K3.out, K5.out] at y3
    have Y1 := hide y1
    have Y2 := hide y2
    have Y6 := hide y6
    have VC4 := hide hVC4
    rw [hn.out] at y3 y4 y5
    have Y3 := hide y3
    have Y4 := hide y4
    have Y5 := hide y5
    have cq : ∃ v, (wr4.setCell ⟨gu, j + (n + 2), none⟩ (.int .u32 (((x : Int) + (c4 : Int)) % 4294967296))).cell? ⟨gq, j, none⟩ = some v := ⟨_, y4.cell j (by simp; omega)⟩
    have cfq := y4.free j
    obtain ⟨v0, cq⟩ := cq
    clear y1 y2 y3 y4 y5 y6 hVC4 hB hxg hWt
    go_wp2_with fail
    refine hK.out _ _ _ _ _ _ _ _ _ _ _ _ _ _ _ _ _ _ _ _ _ _ _ _ _ _ _ _ _ _ _ _ _ _ _ _ _ _ _ _ _ _ _ _ _ _ _ _ _ _ _ _ _ _ _ _ _ _ _ _ _ _ _ _ _ _ _ _ _ _ _ _ _ _ _ _ _ _ _ _ _ _ _ _ _ _ _ _ _ _ _ _ _ _ _ _ _ _ _ _ _ _ _ _ _ _ _ _ _ _ _ _ _ _ _ _ _ _ _ _ _ _ _ _ _ _ _ _ _ _ _ _ _ _ _ _ _ _ _ _ _ _ _ _ _ _ _ _ _ _ _ _ _ _ _ _ _ _ _ _ _ _ _ _ _ _ (DivInv.done ID.out sv.out JN2.out QL.out Y1.out Y2.out Y6.out (by rw [hn.out]; exact Y3.out) Y4.out Y5.out hgq (by omega) ((g : Int) - 1) (by rw [D1.out]; omega)) ?_
    exact VC.set (VC.set VC4.out _ _ _ (by omega)) _ _ _ (by omega)
end Go.Proofs.YtgdiepfknfnmjaaGreatDoor

namespace Go.Proofs.YtgdiepfknfnmjaaGreatDoor
open Go.RowKit

set_option maxHeartbeats 4000000 in
set_option maxRecDepth 100000 in
theorem div_main (va vb : Value) (xs ys : List Nat) (w : World) (ha : Ws w va xs) (hb : Ws w vb ys) (tx : Tr xs) (ty : Tr ys) (hx : 2 < xs.length) (hy : 1 < ys.length) (hle : val ys ≤ val xs) (hl : xs.length ≤ 900000000) (hl2 : ys.length ≤ xs.length) :
    Calls Tryz.prog 130 #[va, vb] w fun e w' => ∃ q r, e = .returned (.tuple #[q, r]) ∧ Num w' q (val xs / val ys) xs.length ∧ Num w' r (val xs % val ys) (xs.length + 2) ∧ w.grownBy w' none ∧ Fresh w q ∧ Fresh w r := by
  obtain ⟨ao, ca, ea, hca, hca', Ha⟩ := ha.open
  obtain ⟨bo, cb, eb, hcb, hcb', Hb⟩ := hb.open
  unfold maxLen at hca' hcb'
  have hne1 : (((ys.length : Nat) : Int) == 0) = false := beq_eq_false_iff_ne.2 (by omega)
  have hne2 : (((ys.length : Nat) : Int) == 1) = false := beq_eq_false_iff_ne.2 (by omega)
  have WA := hide ha
  have WB := hide hb
  have TX := hide tx
  have TY := hide ty
  have HLE := hide hle
  subst ea eb
  clear Ha Hb ha hb tx ty hle
  go_enter Tryz.func130, Tryz.ntmps130
  go_wp2_with fail
  refine (cmp_ws _ _ xs ys _ WA.out WB.out TX.out TY.out).mono ?_
  rintro e w1 ⟨rfl, q1, rfl⟩
  have hord := ord_ge HLE.out
  generalize ord (val xs) (val ys) = o1 at hord ⊢
  go_wp2_with fail
  obtain ⟨t, ht1, ht2⟩ := tr_top TY.out (by intro e; rw [e] at hy; simp at hy)
  refine (length_ws _ ys _ (WB.out.keep0 (gr_drewN (gr_refl _ _) _)) (by omega) t ht1 ht2 (by omega)).mono ?_
  rintro e w2 ⟨⟨n1, rfl, hn1, hn2, hn3, hn4⟩, rfl⟩
  have HT := hide (And.intro ht1 (And.intro hn3 hn4))
  clear ht1 hn3 hn4
  go_wp2_with fail
  obtain ⟨s, hs⟩ : ∃ s, s = 32 - n1 := ⟨_, rfl⟩
  have es : (32 - ((((ys.length : Nat) : Int) - 1) * 32 + (n1 : Int) - 1) % 32 - 1) = (s : Int) := by omega
  have hs32 : s < 32 := by omega
  have HS := hide hs
  simp only [es]
  clear es hs
  refine (left_ws _ ys s _ (WB.out.keep0 (gr_drewN (gr_refl _ _) _)) hs32 (by omega) (by omega)).mono ?_
  rintro e w3 ⟨vv, rfl, ⟨vs, v1, v2, v3, v4⟩, g3, f3⟩
  obtain ⟨vlen, tt, htt, htb⟩ := norm_top ys vs t n1 s HS.out hn1 hn2 WB.out.sm (by omega) HT.out.1 HT.out.2.1 HT.out.2.2 v1.sm v2 v3
  obtain ⟨vo, cv, rfl, hcv, hcv', Hv⟩ := v1.open
  have HV := hide Hv
  have VB := hide v1.blk
  have V1 := hide v1
  have V2 := hide v2
  have V3 := hide v3
  have G3 := hide (gr_none (gr_drewN (gr_refl w none) q1) g3)
  have VL := hide vlen
  have HTT := hide htt
  have vl1 : vs.length ≤ ys.length := by omega
  have vl2 : ys.length ≤ vs.length := by omega
  clear Hv v1 v2 v3 v4 g3 f3 vlen htt
  unfold maxLen at hcv'
  go_wp2_with (at_make; refine wpList_make_words _ rfl _ _ 42 rfl Tryz.underlying42 Tryz.info32 _ _ _ _ (xs.length + 2) rfl rfl (by omega) (by omega) (by omega) ?_)
  intro w4 harr hgr
  have HU := hide harr
  have G4 := hide (gr_none G3.out hgr)
  have V4 := hide (V1.out.keep0 hgr)
  have hgu : w.heap.size ≤ w3.heap.size := G3.out.size
  generalize w3.heap.size = gu at *
  clear harr hgr V1 G3 HV
  go_wp2_with fail
  refine (left_ws _ xs s _ (WA.out.keep0 G4.out) hs32 (by omega) (by omega)).mono ?_
  rintro e w5 ⟨uv, rfl, ⟨al, u1, u2, u3, u4⟩, g5, f5⟩
  have HU5 := hide (HU.out.keep g5 (by simp))
  have G5 := hide (gr_none G4.out g5)
  have V5 := hide (V4.out.keep0 g5)
  have hal : 0 < al.length := by
    rcases Nat.eq_zero_or_pos al.length with h | h
    · exfalso
      have e0 : al = [] := List.eq_nil_of_length_eq_zero h
      rw [e0] at u3
      have p1 := Nat.two_pow_pos s
      have p2 := tr_ge TX.out (by intro e; rw [e] at hx; simp at hx)
      have p3 : 0 < 4294967296 ^ (xs.length - 1) := Nat.pow_pos (by decide)
      have p4 : 0 < val xs * 2 ^ s := Nat.mul_pos (by omega) p1
      rw [← u3] at p4
      simp [val] at p4
    · exact h
  have ualen := u4
  have U1 := hide u1
  have U3 := hide u3
  obtain ⟨ua, cu, rfl, hcu, hcu', Hu⟩ := u1.open
  obtain ⟨ub, uoff, rfl, hub, hjunk⟩ := Hu 0 hal
  clear hjunk
  have HUC := hide Hu
  clear HU G4 V4 g5 u1 u2 u3 u4 Hu f5 hcu'
  have hrun := run_copy_row (P := Tryz.prog) w5 42 42 3 96 gu 0 (xs.length + 2) (xs.length + 2) ⟨ub, uoff, none⟩ al.length cu (wordCells (List.replicate (xs.length + 2) 0)) 96 (wordCells al).toList Tryz.underlying42 (by kernel_rfl) HU5.out
    (by show _ = min _ _; simp [wordCells]; omega) (by
      intro j v hj
      obtain ⟨hj', hju⟩ := List.getElem?_eq_some_iff.1 hj
      have hjl : j < al.length := by simpa [wordCells] using hj'
      obtain ⟨b', o', e', _, hcc⟩ := HUC.out j hjl
      simp only [Option.some.injEq, Addr.mk.injEq, and_true] at e'
      obtain ⟨rfl, rfl⟩ := e'
      rw [show (⟨ub, uoff, none⟩ : Addr).add j = ⟨ub, uoff + j, none⟩ from by simp [Addr.add], hcc, ← hju]
      simp [wordCells]) (by simp [wordCells]; omega) (by
      intro u hu
      simp only [wordCells, List.mem_map] at hu
      obtain ⟨x, _, rfl⟩ := hu
      rfl)
  obtain ⟨c1, c2, c3⟩ := copied (al := al) HU5.out G5.out hgu
  generalize (w5.setRow gu ((wordCells (List.replicate (xs.length + 2) 0)).toList.take 0 ++ (wordCells al).toList ++ (wordCells (List.replicate (xs.length + 2) 0)).toList.drop (0 + (wordCells al).toList.length)).toArray) = w6 at hrun c1 c2 c3
  generalize (goInt (wordCells al).toList.length) = gi at hrun
  have V6 := hide (V5.out.keep c3 (fun k e h => by cases e; exact absurd (VB.out _ h) (Nat.lt_irrefl _)))
  have U6 := hide c1
  have G6 := hide c2
  clear c1 c2 c3 HU5 G5 V5 HUC
  go_wp2_with (at_make; refine wpList_make_words _ rfl _ _ 42 rfl Tryz.underlying42 Tryz.info32 _ _ _ _ (xs.length + 2 - vs.length) rfl rfl (by omega) (by omega) (by omega) ?_)
  intro w7 harr hgr
  have Q7 := hide harr
  have U7 := hide (U6.out.keep hgr (by simp))
  have G7 := hide (gr_none G6.out hgr)
  have V7 := hide (V6.out.keep0 hgr)
  have hgq : w.heap.size ≤ w6.heap.size := G6.out.size
  have hqu : gu < w6.heap.size := U6.out.lt
  generalize w6.heap.size = gq at *
  clear harr hgr U6 G6 V6 hrun
  obtain ⟨n, hn⟩ : ∃ n, vs.length = n + 2 := ⟨vs.length - 2, by omega⟩
  obtain ⟨vo', cv', ev, _, _, Hv⟩ := V7.out.open
  simp only [Value.slice.injEq, true_and] at ev
  obtain ⟨rfl, rfl⟩ := ev
  obtain ⟨vb, voff, rfl, hvb, hjunk⟩ := Hv 0 (by omega)
  clear hjunk
  have hvbu : vb < gu := VB.out vb rfl
  have hv : ∀ i (h : i < vs.length), w7.cell? ⟨vb, voff + i, none⟩ = some (.int .u32 (vs[i] : Nat)) := by
    intro i h
    obtain ⟨b', o', e', _, hcc⟩ := Hv i h
    simp only [Option.some.injEq, Addr.mk.injEq, and_true] at e'
    obtain ⟨rfl, rfl⟩ := e'
    exact hcc
  have HV : Hid (VC vb voff vs w7) := hide hv
  obtain ⟨vt, evt⟩ : ∃ x, vs[n + 1]? = some x := ⟨_, List.getElem?_eq_getElem (by omega)⟩
  obtain ⟨vn, evn⟩ : ∃ x, vs[n]? = some x := ⟨_, List.getElem?_eq_getElem (by omega)⟩
  have hc1 : w7.cell? ⟨vb, voff + (n + 1), none⟩ = some (.int .u32 (vt : Nat)) := by rw [hv (n + 1) (by omega), (List.getElem?_eq_some_iff.1 evt).2]
  have hc2 : w7.cell? ⟨vb, voff + n, none⟩ = some (.int .u32 (vn : Nat)) := by rw [hv n (by omega), (List.getElem?_eq_some_iff.1 evn).2]
  have hvtb : vt < 4294967296 := by
    have := V7.out.sm.get (n + 1) (by omega)
    rw [(List.getElem?_eq_some_iff.1 evt).2] at this
    exact this
  have hvnb : vn < 4294967296 := by
    have := V7.out.sm.get n (by omega)
    rw [(List.getElem?_eq_some_iff.1 evn).2] at this
    exact this
  have hvt31 : 2147483648 ≤ vt := by
    have := HTT.out
    rw [hn, show n + 2 - 1 = n + 1 from by omega, evt] at this
    have e := Option.some.inj this
    omega
  have EVT := hide evt
  have EVN := hide evn
  have HN := hide hn
  have D0 := hide (DivInv.start (w := w) (wr := w7) (gu := gu) (gq := gq) (vs := vs) (al := al) (N := xs.length + 2) (A := val xs * 2 ^ s) U1.out.sm (by omega) U3.out (norm_lt xs s WA.out.sm hs32) tt (by omega) (by omega) HTT.out (by omega) U7.out Q7.out G7.out)
  have hnx : n + 2 ≤ xs.length := by omega
  rw [hn]
  rw [hn] at hcv
  clear hv Hv evt evn hn vl1 vl2 htb HTT HT hn1 hn2 ht2 HS VL hub hcu hal ualen U1 U3 U7 Q7 G7 hl2 hy hne1 hne2 hca hca' hcb hcb' HLE
  clear VB
  go_wp2
  go_quiet (fail)
  go_wp2
  simp only [Int.natCast_add, Int.cast_ofNat_Int, Nat.add_sub_add_right]
  go_loopw [18] (fun jv wr => ∃ z : Int, -1 ≤ z ∧ z + n + 2 ≤ xs.length + 1 ∧ jv = .int .i64 z ∧ Hid (VC vb voff vs wr) ∧ Hid (∃ us qs, DivInv w wr gu gq vs (xs.length + 2) (val xs * 2 ^ s) (z + 1).toNat us qs)) (fun jv _ => (intOf jv + 1).toNat)
  case atStart => exact ⟨(xs.length : Int) + 2 - (n + 2) - 1, by omega, by omega, rfl, HV.out.drewN _, _, _, by
    rw [show ((xs.length : Int) + 2 - (n + 2) - 1 + 1).toNat = xs.length + 2 - vs.length from by rw [HN.out]; omega]
    exact D0.out.drewN _⟩
  case round =>
    obtain ⟨z, hz1, hz2, rfl, HVC, HD⟩ := hrel
    by_cases h0 : z < 0
    · obtain ⟨us, qs, hD⟩ := HD.out
      rw [show (z + 1).toNat = 0 from by omega] at hD
      obtain ⟨i1, i2, i3, i4, i5, i6, i7, i8, i9⟩ := hD
      rw [List.replicate_zero, List.nil_append] at i6
      simp only [List.take_zero, List.drop_zero, Nat.pow_zero, Nat.one_mul, val, Nat.zero_add] at i8 i9
      have ql : qs.length = xs.length - n := by have := HN.out; omega
      have wq := i6.ws i4 (by unfold maxLen; omega)
      have wu := i5.ws i3 (by unfold maxLen; omega)
      rw [ql] at wq
      rw [i1] at wu
      have WQ := hide wq
      have WU := hide wu
      have QL := hide ql
      have I1 := hide i1
      have I8 := hide i8
      have I9 := hide i9
      have I7 := hide i7
      clear i1 i2 i3 i4 i5 i6 i7 i8 i9 ql wq wu HD HVC
      go_wp2_with fail
      refine (trim_num _ qs _ WQ.out).mono ?_
      rintro e w8 ⟨q', rfl, rfl, n1', n2'⟩
      go_wp2_with fail
      refine (trim_ws _ us _ WU.out).mono ?_
      rintro e w8 ⟨u', rfl, rfl, n3', n4'⟩
      have tl := trimL_length us
      rw [I1.out] at tl
      have N3 := hide n3'
      have N1 := hide n1'
      have N2 := hide n2'
      have TL := hide tl
      clear n1' n2' n3' n4' tl
      go_wp2_with fail
      refine (right_ws _ (trimL us) s _ N3.out hs32 (by have := TL.out; omega)).mono ?_
      rintro e w9 ⟨r', rfl, n5', g9, f9⟩
      have N5 := hide n5'
      have G9 := hide g9
      have F9 := hide f9
      clear n5' g9 f9
      go_wp2
      go_ret2
      obtain ⟨m1, m2⟩ := div_end (val xs) (val ys) (2 ^ s) (val qs) (val us) (Nat.two_pow_pos s) (by rw [← V3.out]; exact I8.out) (by rw [← V3.out]; exact I9.out)
      refine ⟨q', r', rfl, ?_, ?_, gr_none I7.out G9.out, ?_, ?_⟩
      · rw [← m1]
        exact (N1.out.keep0 G9.out).mono (by rw [QL.out]; omega)
      · have h5 := N5.out
        rw [val_trimL, m2] at h5
        exact h5.mono TL.out
      · intro k hk
        rw [N2.out] at hk
        simp [blockOf] at hk
        omega
      · intro k hk
        have h1 := F9.out k hk
        have h2 := I7.out.size
        omega
    · obtain ⟨j, rfl⟩ : ∃ j : Nat, z = j := ⟨z.toNat, by omega⟩
      obtain ⟨us, qs, hD⟩ := HD.out
      rw [show ((j : Int) + 1).toNat = j + 1 from by omega] at hD
      have HDD := hide hD
      clear hD HD
      go_upto_block 1 with fail
      refine round_block _ _ w wr gu gq vb voff cv (xs.length + 2) (xs.length - n) (val xs * 2 ^ s) j n vt vn vs us qs HDD.out HVC (hide V7.out.sm) HN EVT EVN hvt31 hvtb hvnb hgu hgq hqu hvbu (by omega) (by omega) (by omega) (by omega) hcv (by omega) _ _ _ _ _ _ _ _ _ _ _ _ _ _ _ _ _ _ _ _ _ _ _ _ _ _ _ _ _ _ _ _ _ _ _ _ _ _ _ _ _ _ _ _ _ _ _ _ _ _ _ _ _ _ _ _ _ _ _ _ _ _ _ _ _ _ _ _ _ _ _ _ _ _ _ _ _ _ _ _ _ _ _ _ _ _ _ _ _ _ _ _ _ _ _ _ _ _ _ _ _ _ _ _ _ _ _ _ _ _ _ _ _ _ _ _ _ _ _ _ _ _ _ _ _ _ _ _ _ _ _ _ _ _ _ _ _ _ _ _ _ _ _ _ _ _ _ _ _ _ _ _ _ _ _ _ _ _ _ _ _ _ _ _ _ _ _ _ _ _ _ _ _ _ _ _ _ _ _ _ _ _ _ _ _ _ _ _ _ _ _ _ _ _ _ _ _ _ _ _ _ _ _ _ _ _ _ _ _ _ _ _ _ _ _ _ _ _ _ _ _ _ _ _ _ _ _ _ _ _ _ _ _ _ _ _ _ _ _ _ _ _ _ _ _ _ _ _ _ _ _ _ _ _ _ _ _ _ _ _ _ _ _ _ _ _ (hide ?_)
      intro wr' us2 qs2 v19 v20 v21 v22 v23 v24 v25 v26 v27 v113 v114 v115 v116 v117 v118 v119 v120 v121 v122 v123 v124 v125 v126 v127 v128 v129 v130 v131 v132 v133 v134 v135 v136 v137 v138 v139 v140 v141 v142 v143 v144 v145 v146 v147 v148 v149 v150 v151 v152 v153 v154 v155 v156 v157 v158 v159 v160 v161 v162 v163 v164 v165 v166 v167 v168 v169 v170 v171 v172 v173 v174 v175 v176 v177 v178 v179 v180 v181 v182 v183 v184 v185 v186 v187 v188 v189 v190 v191 v192 v193 v194 v195 v196 v197 v198 v199 v200 v201 v202 v203 v204 v205 v206 v207 v208 v209 v210 v211 v212 v213 v214 v215 v216 v217 v218 v219 v220 v221 v222 v223 v224 v225 v226 v227 v228 v229 v230 v231 v232 v233 v234 v235 v236 v237 v238 v239 v240 v241 v242 v243 v244 v245 v246 v247 v248 v249 v250 v251 v252 v253 v254 v255 v256 v257 v258 v259 v260 v261 v262 v263 v264 v265 v266 hD2 hV2
      have HD2 := hide hD2
      have HV2 := hide hV2
      clear hD2 hV2 HDD HVC
      go_wp2
      go_roundw
      case rel =>
        (repeat apply Exists.intro)
        exact ⟨⟨(j : Int) - 1, by omega, by omega, by go_num, HV2.out, us2, qs2, by rw [show ((j : Int) - 1 + 1).toNat = j from by omega]; exact HD2.out⟩, rfl⟩
      case measure => simp [intOf]
end Go.Proofs.YtgdiepfknfnmjaaGreatDoor

namespace Go.Proofs.YtgdiepfknfnmjaaGreatDoor
open Go.RowKit
set_option linter.unusedVariables false

set_option maxHeartbeats 2000000 in
set_option maxRecDepth 100000 in
theorem div_less (va vb : Value) (xs ys : List Nat) (w : World) (ha : Ws w va xs) (hb : Ws w vb ys) (tx : Tr xs) (ty : Tr ys) (hlt : val xs < val ys) (hl : xs.length ≤ 900000000) :
    Calls Tryz.prog 130 #[va, vb] w fun e w' => ∃ q r, e = .returned (.tuple #[q, r]) ∧ Num w' q 0 0 ∧ Num w' r (val xs) xs.length ∧ w.grownBy w' none ∧ Fresh w q ∧ Fresh w r := by
  obtain ⟨ao, ca, ea, hca, hca', Ha⟩ := ha.open
  obtain ⟨bo, cb, eb, hcb, hcb', Hb⟩ := hb.open
  unfold maxLen at hca' hcb'
  have hy : 0 < ys.length := by
    rcases Nat.eq_zero_or_pos ys.length with h | h
    · have : ys = [] := List.eq_nil_of_length_eq_zero h
      rw [this] at hlt; simp [val] at hlt
    · exact h
  have hne1 : (((ys.length : Nat) : Int) == 0) = false := beq_eq_false_iff_ne.2 (by omega)
  have WA := hide ha
  have WB := hide hb
  have TX := hide tx
  have TY := hide ty
  have HLT := hide hlt
  subst ea eb
  clear Ha Hb ha hb tx ty hlt
  go_enter Tryz.func130, Tryz.ntmps130
  go_wp2_with fail
  refine (cmp_ws _ _ xs ys _ WA.out WB.out TX.out TY.out).mono ?_
  rintro e w1 ⟨rfl, q1, rfl⟩
  have hord := ord_neg HLT.out
  generalize ord (val xs) (val ys) = o1 at hord ⊢
  go_wp2_with fail
  refine (twin_ws _ xs _ (WA.out.keep0 (gr_drewN (gr_refl _ _) _)) (by omega)).mono ?_
  rintro e w2 ⟨r', rfl, k1, k2, k3⟩
  have K1 := hide k1
  have K2 := hide k2
  have K3 := hide k3
  clear k1 k2 k3
  go_wp2
  go_ret2
  exact ⟨_, r', rfl, ⟨[], Ws.nil _, rfl, rfl, by simp⟩, ⟨xs, K1.out, TX.out, rfl, Nat.le_refl _⟩, gr_none (gr_drewN (gr_refl _ _) _) K2.out, fun k hk => by simp [blockOf] at hk, K3.out⟩

set_option maxHeartbeats 2000000 in
set_option maxRecDepth 100000 in
theorem div_one (va vb : Value) (xs : List Nat) (y : Nat) (w : World) (ha : Ws w va xs) (hb : Ws w vb [y]) (tx : Tr xs) (ty : Tr [y]) (hx : 2 < xs.length) (hle : y ≤ val xs) (hl : xs.length ≤ 900000000) :
    Calls Tryz.prog 130 #[va, vb] w fun e w' => ∃ q r, e = .returned (.tuple #[q, r]) ∧ Num w' q (val xs / y) xs.length ∧ Num w' r (val xs % y) 1 ∧ w.grownBy w' none ∧ Fresh w q ∧ Fresh w r := by
  obtain ⟨ao, ca, ea, hca, hca', Ha⟩ := ha.open
  obtain ⟨bo, cb, eb, hcb, hcb', Hb⟩ := hb.open
  unfold maxLen at hca' hcb'
  obtain ⟨b, off, rfl, hbb, hcell⟩ := Hb 0 (by simp)
  simp only [Nat.add_zero, List.getElem_cons_zero] at hcell
  have hy0 : 0 < y := by have := ty.pos; simp only [val] at this; omega
  have hyb : y < 4294967296 := hb.sm y (by simp)
  have WA := hide ha
  have WB := hide hb
  have TX := hide tx
  have TY := hide ty
  have HLE : Hid (val [y] ≤ val xs) := by simp only [val]; exact hle
  subst ea eb
  clear Ha Hb ha hb tx ty hle
  go_enter Tryz.func130, Tryz.ntmps130
  go_wp2_with fail
  refine (cmp_ws _ _ xs [y] _ WA.out WB.out TX.out TY.out).mono ?_
  rintro e w1 ⟨rfl, q1, rfl⟩
  have hord := ord_ge HLE.out
  generalize ord (val xs) (val [y]) = o1 at hord ⊢
  go_wp2_with fail
  refine (small_ws _ xs y _ (WA.out.keep0 (gr_drewN (gr_refl _ _) _)) hy0 hyb (by omega)).mono ?_
  rintro e w2 ⟨q', r, rfl, hr, k1, k2, k3⟩
  have hrb : r < 4294967296 := by rw [hr]; exact Nat.lt_trans (Nat.mod_lt _ hy0) hyb
  have K1 := hide k1
  have K2 := hide k2
  have K3 := hide k3
  have HR := hide hr
  clear k1 k2 k3 hr
  go_wp2_with fail
  have ha1 : Arr (w2.alloc (Obj.cells #[Value.int IntKind.u32 (r : Nat)] 96)) w2.heap.size [r] := by
    unfold Arr
    show (w2.heap.push _)[w2.heap.size]? = _
    rw [Array.getElem?_push_size]
    rfl
  have hw := ha1.ws (Sm.cons hrb Sm.nil) (by unfold maxLen; simp)
  clear ha1
  refine (trim_num _ _ _ hw).mono ?_
  rintro e w3 ⟨r', rfl, rfl, h1, h2⟩
  have H1 := hide h1
  have H2 := hide h2
  clear hw h1 h2
  go_wp2
  go_ret2
  refine ⟨q', r', rfl, K1.out.keep0 (gr_alloc (gr_refl _ _) _), ?_, gr_alloc (gr_none (gr_drewN (gr_refl _ _) _) K2.out) _, K3.out, ?_⟩
  · have h := H1.out
    simp only [val, Nat.mul_zero, Nat.add_zero, List.length_singleton] at h
    rw [← HR.out]
    exact h
  · intro k hk
    rw [H2.out] at hk
    have := K2.out.size
    simp [blockOf] at hk
    simp at this
    omega

theorem short_end {w wa wb : World} {v1 v2 : Value} {k m1 m2 : Nat} (g1 : (w.drewN k).grownBy wa none) (n1 : Num wa v1 m1 2) (f1 : Fresh (w.drewN k) v1) (g2 : wa.grownBy wb none) (n2 : Num wb v2 m2 2) (f2 : Fresh wa v2) :
    Num wb v1 m1 2 ∧ Num wb v2 m2 2 ∧ w.grownBy wb none ∧ Fresh w v1 ∧ Fresh w v2 :=
  ⟨n1.keep0 g2, n2, gr_none (gr_none (gr_drewN (gr_refl _ _) _) g1) g2, f1, fun k hk => Nat.le_trans g1.size (f2 k hk)⟩

set_option maxHeartbeats 2000000 in
set_option maxRecDepth 100000 in
theorem div_short (va vb : Value) (xs ys : List Nat) (w : World) (ha : Ws w va xs) (hb : Ws w vb ys) (tx : Tr xs) (ty : Tr ys) (hx : xs.length ≤ 2) (hy : 0 < ys.length) (hy2 : ys.length ≤ 2) (hle : val ys ≤ val xs) :
    Calls Tryz.prog 130 #[va, vb] w fun e w' => ∃ q r, e = .returned (.tuple #[q, r]) ∧ Num w' q (val xs / val ys) 2 ∧ Num w' r (val xs % val ys) 2 ∧ w.grownBy w' none ∧ Fresh w q ∧ Fresh w r := by
  obtain ⟨ao, ca, ea, hca, hca', Ha⟩ := ha.open
  obtain ⟨bo, cb, eb, hcb, hcb', Hb⟩ := hb.open
  unfold maxLen at hca' hcb'
  have hne1 : (((ys.length : Nat) : Int) == 0) = false := beq_eq_false_iff_ne.2 (by omega)
  have hyp : 0 < val ys := by
    have := tr_ge ty (by intro e; rw [e] at hy; simp at hy)
    have p3 : 0 < 4294967296 ^ (ys.length - 1) := Nat.pow_pos (by decide)
    omega
  have hxb : val xs < 18446744073709551616 := by
    have h1 := val_lt ha.sm
    have h2 : 4294967296 ^ xs.length ≤ 4294967296 ^ 2 := Nat.pow_le_pow_right (by decide) hx
    omega
  have WA := hide ha
  have WB := hide hb
  have TX := hide tx
  have TY := hide ty
  have HLE := hide hle
  subst ea eb
  clear Ha Hb ha hb tx ty
  go_enter Tryz.func130, Tryz.ntmps130
  go_wp2_with fail
  refine (cmp_ws _ _ xs ys _ WA.out WB.out TX.out TY.out).mono ?_
  rintro e w1 ⟨rfl, q1, rfl⟩
  have hord := ord_ge HLE.out
  generalize ord (val xs) (val ys) = o1 at hord ⊢
  go_wp2_with fail
  refine (plain_ws _ xs _ (WA.out.keep0 (gr_drewN (gr_refl _ _) _)) hx).mono ?_
  rintro e w2 ⟨rfl, rfl⟩
  go_wp2_with fail
  refine (plain_ws _ ys _ (WB.out.keep0 (gr_drewN (gr_refl _ _) _)) hy2).mono ?_
  rintro e w3 ⟨rfl, rfl⟩
  generalize hX : val xs = X at *
  generalize hY : val ys = Y at *
  have HX := hide hX
  have HY := hide hY
  clear hX hY
  have hqb : X / Y < 18446744073709551616 := Nat.lt_of_le_of_lt (Nat.div_le_self _ _) hxb
  have hrb : X % Y < 18446744073709551616 := Nat.lt_of_le_of_lt (Nat.mod_le _ _) hxb
  obtain ⟨qq, eq⟩ : ∃ x, x = X / Y := ⟨_, rfl⟩
  obtain ⟨rr, er⟩ : ∃ x, x = X % Y := ⟨_, rfl⟩
  have hq1 : ((X : Int) / (Y : Int)) = (qq : Int) := by rw [eq, Int.natCast_ediv]
  have hq2 : ((X : Int) % (Y : Int)) = (rr : Int) := by rw [er, Int.natCast_emod]
  have hq3 : ((X : Int).tmod (Y : Int)) = (rr : Int) := by rw [er, Int.tmod_eq_emod_of_nonneg (by omega), Int.natCast_emod]
  rw [← eq] at hqb
  rw [← er] at hrb
  have hw1 : IntKind.u64.wrap (qq : Int) = (qq : Int) := IntWalk.u64_in _ ⟨by omega, by omega⟩
  have hw2 : IntKind.u64.wrap (rr : Int) = (rr : Int) := IntWalk.u64_in _ ⟨by omega, by omega⟩
  have EQ := hide eq
  have ER := hide er
  clear eq er
  go_wp2
  go_region_with (first | (go_at_call_of 71 (Value.int .u64 (qq : Int)); refine (words_num _ _ (by omega) (by omega)).mono ?_; rintro e w5 ⟨vq, rfl, a1, a2, a3⟩) | (go_at_call_of 71 (Value.int .u64 (rr : Int)); refine (words_num _ _ (by omega) (by omega)).mono ?_; rintro e w6 ⟨vr, rfl, b1, b2, b3⟩))
  all_goals go_wp2
  all_goals go_ret2
  all_goals rw [Int.toNat_natCast] at a1 b1
  all_goals rw [EQ.out] at a1
  all_goals rw [ER.out] at b1
  all_goals rw [HX.out, HY.out]
  all_goals first
    | (have h := short_end a2 a1 a3 b2 b1 b3; exact ⟨vq, vr, rfl, h.1, h.2.1, h.2.2.1, h.2.2.2.1, h.2.2.2.2⟩)
    | (have h := short_end b2 b1 b3 a2 a1 a3; exact ⟨vq, vr, rfl, h.2.1, h.1, h.2.2.1, h.2.2.2.2, h.2.2.2.1⟩)

theorem div_num (va vb : Value) (m n L M : Nat) (w : World) (ha : Num w va m L) (hb : Num w vb n M) (hn : 0 < n) (hl : L ≤ 900000000) (hm : M ≤ 900000000) :
    Calls Tryz.prog 130 #[va, vb] w fun e w' => ∃ q r, e = .returned (.tuple #[q, r]) ∧ Num w' q (m / n) (L + 2) ∧ Num w' r (m % n) (L + 2) ∧ w.grownBy w' none ∧ Fresh w q ∧ Fresh w r := by
  obtain ⟨xs, x1, x2, x3, x4⟩ := ha
  obtain ⟨ys, y1, y2, y3, y4⟩ := hb
  have hy0 : 0 < ys.length := by
    rcases Nat.eq_zero_or_pos ys.length with h | h
    · have : ys = [] := List.eq_nil_of_length_eq_zero h
      rw [this] at y3; simp [val] at y3; omega
    · exact h
  rcases Nat.lt_or_ge (val xs) (val ys) with hlt | hge
  · refine (div_less va vb xs ys w x1 y1 x2 y2 hlt (by omega)).mono ?_
    rintro e w' ⟨q, r, rfl, k1, k2, k3, k4, k5⟩
    rw [x3] at k2
    rw [x3, y3] at hlt
    refine ⟨q, r, rfl, ?_, ?_, k3, k4, k5⟩
    · rw [Nat.div_eq_of_lt hlt]; exact k1.mono (by omega)
    · rw [Nat.mod_eq_of_lt hlt]; exact k2.mono (by omega)
  · have hll : ys.length ≤ xs.length := by
      rcases Nat.lt_or_ge xs.length ys.length with h | h
      · have := val_lt_of_length x1.sm y2 h; omega
      · exact h
    by_cases h2 : xs.length ≤ 2
    · refine (div_short va vb xs ys w x1 y1 x2 y2 h2 hy0 (by omega) hge).mono ?_
      rintro e w' ⟨q, r, rfl, k1, k2, k3, k4, k5⟩
      rw [x3, y3] at k1 k2
      exact ⟨q, r, rfl, k1.mono (by omega), k2.mono (by omega), k3, k4, k5⟩
    · by_cases h1 : ys.length = 1
      · obtain ⟨y, rfl⟩ := List.length_eq_one_iff.1 h1
        have hy : y = n := by rw [← y3]; simp [val]
        refine (div_one va vb xs y w x1 y1 x2 y2 (by omega) (by simp only [val] at hge; omega) (by omega)).mono ?_
        rintro e w' ⟨q, r, rfl, k1, k2, k3, k4, k5⟩
        rw [x3, hy] at k1 k2
        exact ⟨q, r, rfl, k1.mono (by omega), k2.mono (by omega), k3, k4, k5⟩
      · refine (div_main va vb xs ys w x1 y1 x2 y2 (by omega) (by omega) hge (by omega) hll).mono ?_
        rintro e w' ⟨q, r, rfl, k1, k2, k3, k4, k5⟩
        rw [x3, y3] at k1 k2
        exact ⟨q, r, rfl, k1.mono (by omega), k2.mono (by omega), k3, k4, k5⟩
end Go.Proofs.YtgdiepfknfnmjaaGreatDoor

namespace Go.Proofs.YtgdiepfknfnmjaaGreatDoor
open Go.RowKit
set_option linter.unusedVariables false

set_option maxHeartbeats 1000000 in
theorem common_ws (va vb : Value) (xs0 ys0 : List Nat) (w : World) (ha : Ws w va xs0) (hb : Ws w vb ys0) (tx0 : Tr xs0) (ty0 : Tr ys0) (hx0 : 0 < val xs0) (L : Nat) (hlx : xs0.length ≤ L) (hly : ys0.length ≤ L) (hl : L ≤ 800000000) :
    Calls Tryz.prog 138 #[va, vb] w fun e w' => ∃ g, e = .returned g ∧ Num w' g (Nat.gcd (val xs0) (val ys0)) (L + 2) ∧ w.grownBy w' none := by
  obtain ⟨ao, ca, ea, hca, hca', Ha⟩ := ha.open
  obtain ⟨bo, cb, eb, hcb, hcb', Hb⟩ := hb.open
  obtain ⟨G, hG⟩ : ∃ G, G = Nat.gcd (val xs0) (val ys0) := ⟨_, rfl⟩
  rw [← hG]
  have H0 : Hid (∃ xs ys : List Nat, Ws w (.slice ao xs0.length ca) xs ∧ Ws w (.slice bo ys0.length cb) ys ∧ Tr xs ∧ Tr ys ∧ 0 < val xs ∧ xs.length ≤ L ∧ ys.length ≤ L ∧ Nat.gcd (val xs) (val ys) = G ∧ w.grownBy w none ∧ val ys = val ys0) :=
    ⟨xs0, ys0, by rw [← ea]; exact ha, by rw [← eb]; exact hb, tx0, ty0, hx0, hlx, hly, hG.symm, gr_refl _ _, rfl⟩
  subst ea eb
  clear Ha Hb ha hb tx0 ty0 hx0 hlx hly hG hca hca' hcb hcb'
  go_enter Tryz.func138, Tryz.ntmps138
  go_wp2
  go_loopg [0, 1] (val ys0) (fun k av bv wr => Hid (∃ xs ys : List Nat, Ws wr av xs ∧ Ws wr bv ys ∧ Tr xs ∧ Tr ys ∧ 0 < val xs ∧ xs.length ≤ L ∧ ys.length ≤ L ∧ Nat.gcd (val xs) (val ys) = G ∧ w.grownBy wr none ∧ val ys = k))
  case atStart => exact H0.out
  case round =>
    obtain ⟨xs, ys, h1, h2, h3, h4, h5, h6, h7, h8, h9, h10⟩ := hrel.out
    obtain ⟨ao', ca', rfl, hca, hca', _⟩ := h1.open
    obtain ⟨bo', cb', rfl, hcb, hcb', _⟩ := h2.open
    unfold maxLen at hca' hcb'
    have H1 := hide h1
    have H2 := hide h2
    have H3 := hide h3
    have H4 := hide h4
    have H5 := hide h5
    have H8 := hide h8
    have H9 := hide h9
    have H10 := hide h10
    clear h1 h2 h3 h4 h5 h8 h9 h10 hrel H0
    by_cases hy : 2 < ys.length
    · have hq0 : 0 < val ys := by
        have := tr_ge H4.out (by intro e; rw [e] at hy; simp at hy)
        have p3 : 0 < 4294967296 ^ (ys.length - 1) := Nat.pow_pos (by decide)
        omega
      have HQ0 := hide hq0
      clear hq0
      go_wp2_with fail
      refine (div_num _ _ (val xs) (val ys) L L _ ⟨xs, H1.out, H3.out, rfl, h6⟩ ⟨ys, H2.out, H4.out, rfl, h7⟩ HQ0.out (by omega) (by omega)).mono ?_
      rintro e w2 ⟨q, r, rfl, k1, ⟨rs, r1, r2, r3, r4⟩, k3, k4, k5⟩
      have R1 := hide r1
      have R2 := hide r2
      have R3 := hide r3
      have K3 := hide k3
      clear k1 r1 r2 r3 r4 k3 k4 k5
      go_wp2
      have hm := Nat.mod_lt (val xs) HQ0.out
      go_roundg (val rs)
      case measure => rw [R3.out, ← H10.out]; exact hm
      case rel => exact ⟨ys, rs, H2.out.keep0 K3.out, R1.out, H4.out, R2.out, HQ0.out, h7, Nat.le_trans (len_le R1.out.sm R2.out H2.out.sm (by rw [R3.out]; omega)) h7, by rw [R3.out, Nat.gcd_comm, ← Nat.gcd_rec, Nat.gcd_comm]; exact H8.out, gr_none H9.out K3.out, rfl⟩
    · by_cases hy1 : ys.length = 0
      · have hb1 : (((ys.length : Nat) : Int) == 0) = true := beq_iff_eq.2 (by omega)
        have e0 : ys = [] := List.eq_nil_of_length_eq_zero hy1
        have E0 := hide e0
        clear e0 hy1
        go_wp2
        go_ret
        refine ⟨_, rfl, ⟨xs, H1.out, H3.out, ?_, by omega⟩, H9.out⟩
        have := H8.out
        rw [E0.out] at this
        simp only [val, Nat.gcd_zero_right] at this
        exact this
      · have hb1 : (((ys.length : Nat) : Int) == 0) = false := beq_eq_false_iff_ne.2 (by omega)
        have hle2 : ys.length ≤ 2 := by omega
        by_cases hx : 2 < xs.length
        · have hq0 : 0 < val ys := by
            have := tr_ge H4.out (by intro e; rw [e] at hy1; simp at hy1)
            have p3 : 0 < 4294967296 ^ (ys.length - 1) := Nat.pow_pos (by decide)
            omega
          have HQ0 := hide hq0
          clear hq0 hy1 hy
          go_wp2_with fail
          refine (div_num _ _ (val xs) (val ys) L L _ ⟨xs, H1.out, H3.out, rfl, h6⟩ ⟨ys, H2.out, H4.out, rfl, h7⟩ HQ0.out (by omega) (by omega)).mono ?_
          rintro e w2 ⟨q, r, rfl, k1, ⟨rs, r1, r2, r3, r4⟩, k3, k4, k5⟩
          obtain ⟨ro', cr', rfl, hcr, hcr', _⟩ := r1.open
          have hm := Nat.mod_lt (val xs) HQ0.out
          have rl : rs.length ≤ 2 := Nat.le_trans (len_le r1.sm r2 H2.out.sm (by rw [r3]; omega)) hle2
          have R1 := hide r1
          have T2' := hide (H2.out.keep0 k3)
          have TG : Hid (Nat.gcd (val ys) (val rs) = G) := by rw [r3, Nat.gcd_comm, ← Nat.gcd_rec, Nat.gcd_comm]; exact H8.out
          have T4' := hide (gr_none H9.out k3)
          clear k1 r1 r2 r3 r4 k3 k4 k5 hm hcr' H1 H2 H3 H4 H5 H8 H9 H10 HQ0
          have bx : val ys < 18446744073709551616 := val_two T2'.out.sm hle2
          have by' : val rs < 18446744073709551616 := val_two R1.out.sm rl
          go_wp2_with fail
          refine (plain_ws _ ys _ T2'.out hle2).mono ?_
          rintro e w3 ⟨rfl, rfl⟩
          go_wp2_with fail
          refine (plain_ws _ rs _ R1.out rl).mono ?_
          rintro e w3 ⟨rfl, rfl⟩
          have T3' := TG
          generalize val ys = X at bx T3' ⊢
          generalize val rs = Y at by' T3' ⊢
          go_wp2
          go_loopw [9, 10] (fun xv yv wv => ∃ x y q : Nat, x < 18446744073709551616 ∧ y < 18446744073709551616 ∧ xv = .int .u64 x ∧ yv = .int .u64 y ∧ wv = w3.drewN q ∧ Hid (Nat.gcd x y = G)) (fun _ yv _ => (intOf yv).toNat)
          case atStart => exact ⟨X, Y, 0, bx, by', rfl, rfl, rfl, T3'.out⟩
          case round =>
            clear bx by' T3'
            obtain ⟨x, y, q, hxb, hyb, rfl, rfl, rfl, HG⟩ := hrel
            by_cases hy0 : y = 0
            · have HY0 := hide hy0
              have hyle : y ≤ 0 := by omega
              clear hy0
              go_wp2_with fail
              refine (words_num _ _ (by omega) (by omega)).mono ?_
              rintro e w5 ⟨g, rfl, a1, a2, a3⟩
              have A1 := hide a1
              have A2 := hide a2
              clear a1 a2 a3
              go_wp2
              go_ret
              refine ⟨g, rfl, ?_, gr_none T4'.out (gr_none (gr_drewN (gr_refl _ _) _) A2.out)⟩
              have h := A1.out
              have hg := HG.out
              rw [HY0.out, Nat.gcd_zero_right] at hg
              rw [Int.toNat_natCast, hg] at h
              exact h.mono (by omega)
            · have hy1 : 1 ≤ y := by omega
              obtain ⟨zz, ez⟩ : ∃ z, z = x % y := ⟨_, rfl⟩
              have hz1 : ((x : Int) % (y : Int)) = (zz : Int) := by rw [ez, Int.natCast_emod]
              have hz2 : ((x : Int).tmod (y : Int)) = (zz : Int) := by rw [ez, Int.tmod_eq_emod_of_nonneg (by omega), Int.natCast_emod]
              have hzb : zz < y := by rw [ez]; exact Nat.mod_lt _ (by omega)
              have EZ := hide ez
              clear ez hy0
              go_wp2
              go_quiet (fail)
              go_wp2
              go_roundw
              case rel => exact ⟨y, zz, _, hyb, by omega, rfl, by first | rfl | rw [hz1] | rw [hz2], by first | rfl | (simp only [World.drewN_drewN]; rfl), by rw [EZ.out, Nat.gcd_comm, ← Nat.gcd_rec, Nat.gcd_comm]; exact HG.out⟩
              case measure => simp [intOf]; omega
        · have hxl : xs.length ≤ 2 := by omega
          clear hy1 hy
          have bx : val xs < 18446744073709551616 := val_two H1.out.sm hxl
          have by' : val ys < 18446744073709551616 := val_two H2.out.sm hle2
          go_wp2_with fail
          refine (plain_ws _ xs _ H1.out hxl).mono ?_
          rintro e w3 ⟨rfl, rfl⟩
          go_wp2_with fail
          refine (plain_ws _ ys _ H2.out hle2).mono ?_
          rintro e w3 ⟨rfl, rfl⟩
          have T3' := H8
          generalize val xs = X at bx T3' ⊢
          generalize val ys = Y at by' T3' ⊢
          go_wp2
          go_loopw [9, 10] (fun xv yv wv => ∃ x y q : Nat, x < 18446744073709551616 ∧ y < 18446744073709551616 ∧ xv = .int .u64 x ∧ yv = .int .u64 y ∧ wv = w3.drewN q ∧ Hid (Nat.gcd x y = G)) (fun _ yv _ => (intOf yv).toNat)
          case atStart => exact ⟨X, Y, 0, bx, by', rfl, rfl, rfl, T3'.out⟩
          case round =>
            clear bx by' T3'
            obtain ⟨x, y, q, hxb, hyb, rfl, rfl, rfl, HG⟩ := hrel
            by_cases hy0 : y = 0
            · have HY0 := hide hy0
              have hyle : y ≤ 0 := by omega
              clear hy0
              go_wp2_with fail
              refine (words_num _ _ (by omega) (by omega)).mono ?_
              rintro e w5 ⟨g, rfl, a1, a2, a3⟩
              have A1 := hide a1
              have A2 := hide a2
              clear a1 a2 a3
              go_wp2
              go_ret
              refine ⟨g, rfl, ?_, gr_none H9.out (gr_none (gr_drewN (gr_refl _ _) _) A2.out)⟩
              have h := A1.out
              have hg := HG.out
              rw [HY0.out, Nat.gcd_zero_right] at hg
              rw [Int.toNat_natCast, hg] at h
              exact h.mono (by omega)
            · have hy1 : 1 ≤ y := by omega
              obtain ⟨zz, ez⟩ : ∃ z, z = x % y := ⟨_, rfl⟩
              have hz1 : ((x : Int) % (y : Int)) = (zz : Int) := by rw [ez, Int.natCast_emod]
              have hz2 : ((x : Int).tmod (y : Int)) = (zz : Int) := by rw [ez, Int.tmod_eq_emod_of_nonneg (by omega), Int.natCast_emod]
              have hzb : zz < y := by rw [ez]; exact Nat.mod_lt _ (by omega)
              have EZ := hide ez
              clear ez hy0
              go_wp2
              go_quiet (fail)
              go_wp2
              go_roundw
              case rel => exact ⟨y, zz, _, hyb, by omega, rfl, by first | rfl | rw [hz1] | rw [hz2], by first | rfl | (simp only [World.drewN_drewN]; rfl), by rw [EZ.out, Nat.gcd_comm, ← Nat.gcd_rec, Nat.gcd_comm]; exact HG.out⟩
              case measure => simp [intOf]; omega

theorem common_num (va vb : Value) (m n L M : Nat) (w : World) (ha : Num w va m L) (hb : Num w vb n M) (hm : 0 < m) (hl : L ≤ 800000000) (hl2 : M ≤ 800000000) :
    Calls Tryz.prog 138 #[va, vb] w fun e w' => ∃ g, e = .returned g ∧ Num w' g (Nat.gcd m n) (max L M + 2) ∧ w.grownBy w' none := by
  obtain ⟨xs, x1, x2, x3, x4⟩ := ha
  obtain ⟨ys, y1, y2, y3, y4⟩ := hb
  rw [← x3, ← y3]
  exact common_ws va vb xs ys w x1 y1 x2 y2 (by omega) (max L M) (by omega) (by omega) (by omega)
end Go.Proofs.YtgdiepfknfnmjaaGreatDoor
