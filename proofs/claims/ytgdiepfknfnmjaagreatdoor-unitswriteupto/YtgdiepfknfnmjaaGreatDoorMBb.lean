/- voltaicbig: div: the subtraction. (Made by divgen.py.) -/
import Derived.Test.YtgdiepfknfnmjaaGreatDoorDivG
import Derived.Deep.Light
namespace Go.Proofs.YtgdiepfknfnmjaaGreatDoor
open Go.RowKit
set_option linter.unusedVariables false

theorem carry_bd2 (g v c : Nat) (hg : g < 4294967296) (hv : v < 4294967296) (hc : c < 4294967296) : (c + g * v) / 4294967296 < 4294967296 := by
  have : g * v ≤ 4294967295 * 4294967295 := Nat.mul_le_mul (by omega) (by omega)
  omega
theorem carry_cast2 (g v c : Nat) : (((c : Int) + (g : Int) * (v : Int)) / 4294967296) = (((c + g * v) / 4294967296 : Nat) : Int) := by
  rw [Int.natCast_ediv, Int.natCast_add, Int.natCast_mul]; rfl

set_option maxHeartbeats 2000000 in
set_option maxRecDepth 100000 in
theorem sub_block (K : Act → World → Prop) (Q' : Exit → Act → World → Prop) (w0 w : World) (gu gq vb voff cv N cu j n g : Nat) (us qs vs : List Nat)
    (hvl : vs.length = n + 2) (hul : us.length = N) (hcv : n + 2 ≤ cv) (hcv2 : cv ≤ 9223372036854775807) (hg : g < 4294967296) (hj : j + n + 2 < N) (hN : N ≤ 1000000000) (su : Hid (Sm us)) (sv : Hid (Sm vs))
    (hgu : w0.heap.size ≤ gu) (hne : gq ≠ gu) (hvb : vb ≠ gu)
    (h0 : Hid (SubInv w0 w gu gq us qs vs j g 0 0 0)) (v0 : Hid (VC vb voff vs w))
    (c0 c1 c2 c3 c4 c5 c6 c7 c8 c9 c10 c14 c15 c16 c17 c19 c21 c25 c26 c27 c28 c29 c30 c31 c32 c33 c34 c35 c36 c37 c38 c39 c40 c41 c42 c43 c44 c45 c46 c47 c48 c49 c50 c51 c52 c53 c54 c55 c56 c57 c58 c59 c60 c61 c62 c63 c64 c65 c66 c67 c68 c69 c70 c71 c72 c73 c74 c75 c76 c77 c78 c79 c80 c81 c82 c83 c84 c85 c86 c87 c88 c89 c90 c91 c92 c93 c94 c95 c96 c97 c98 c99 c100 c101 c102 c103 c104 c105 c106 c107 c108 c109 c110 c111 c112 c113 c114 c115 c116 c117 c118 c119 c120 c121 c122 c123 c124 c125 c126 c127 c128 c129 c130 c131 c132 c133 c134 c135 c136 c137 c138 c139 c140 c141 c142 c143 c144 c145 c146 c147 c148 c149 c150 c151 c152 c153 c154 c155 c156 c157 c158 c159 c160 c161 c162 c163 c164 c165 c166 c167 c168 c169 c170 c171 c172 c173 c174 c175 c176 c177 c178 c179 c180 c181 c182 c183 c184 c185 c186 c187 c188 c189 c190 c191 c192 c193 c194 c195 c196 c197 c198 c199 c200 c201 c202 c203 c204 c205 c206 c207 c208 c209 c210 c211 c212 c213 c214 c215 c216 c217 c218 c219 c220 c221 c222 c223 c224 c225 c226 c227 c228 c229 c230 c231 c232 c233 c234 c235 c236 c237 c238 c239 c240 c241 c242 c243 c244 c245 c246 c247 c248 c249 c250 c251 c252 c253 c254 c255 c256 c257 c258 c259 c260 c261 c262 c263 c264 c265 c266 c267 c268 c269 c270 c271 c272 : Value)
    (hK : Hid (∀ (wr : World) (c d : Nat) (cz dz : Int) (u24 u25 u162 u163 u164 u165 u166 u167 u168 u169 u170 u171 u172 u173 u174 u175 u176 u177 u178 u179 u180 u181 u182 u183 u184 u185 u186 u187 u188 u189 u190 u191 u192 u193 u194 u195 u196 u197 u198 u199 : Value), cz = (c : Int) → dz = (d : Int) → c < 4294967296 → d ≤ 1 → SubInv w0 wr gu gq us qs vs j g (n + 2) c d → VC vb voff vs wr → K ⟨#[c0, c1, c2, c3, c4, c5, c6, c7, c8, c9, c10, .slice (some ⟨vb, voff, none⟩) (n + 2) cv, .slice (some ⟨gu, 0, none⟩) N cu, .int .i64 (n + 2), c14, c15, c16, c17, .int .i64 j, c19, .int .u64 g, c21, .int .u64 cz, .int .u64 dz, u24, u25, c26, c27, c28, c29, c30, c31, c32, c33, c34, c35, c36, c37, c38, c39, c40, c41, c42, c43, c44, c45, c46, c47, c48, c49, c50, c51, c52, c53, c54, c55, c56, c57, c58, c59, c60, c61, c62, c63, c64, c65, c66, c67, c68, c69, c70, c71, c72, c73, c74, c75, c76, c77, c78, c79, c80, c81, c82, c83, c84, c85, c86, c87, c88, c89, c90, c91, c92, c93, c94, c95, c96, c97, c98, c99, c100, c101, c102, c103, c104, c105, c106, c107, c108, c109, c110, c111, c112, c113, c114, c115, c116, c117, c118, c119, c120, c121, c122, c123, c124, c125, c126, c127, c128, c129, c130, c131, c132, c133, c134, c135, c136, c137, c138, c139, c140, c141, c142, c143, c144, c145, c146, c147, c148, c149, c150, c151, c152, c153, c154, c155, c156, c157, c158, c159, c160, c161, u162, u163, u164, u165, u166, u167, u168, u169, u170, u171, u172, u173, u174, u175, u176, u177, u178, u179, u180, u181, u182, u183, u184, u185, u186, u187, u188, u189, u190, u191, u192, u193, u194, u195, u196, u197, u198, u199, c200, c201, c202, c203, c204, c205, c206, c207, c208, c209, c210, c211, c212, c213, c214, c215, c216, c217, c218, c219, c220, c221, c222, c223, c224, c225, c226, c227, c228, c229, c230, c231, c232, c233, c234, c235, c236, c237, c238, c239, c240, c241, c242, c243, c244, c245, c246, c247, c248, c249, c250, c251, c252, c253, c254, c255, c256, c257, c258, c259, c260, c261, c262, c263, c264, c265, c266, c267, c268, c269, c270, c271, c272], []⟩ wr)) :
    Code.wp Tryz.prog ((Tryz.f130.body.bind (findBlock 4)).getD .skip) (Exit.then K Q') ⟨#[c0, c1, c2, c3, c4, c5, c6, c7, c8, c9, c10, .slice (some ⟨vb, voff, none⟩) (n + 2) cv, .slice (some ⟨gu, 0, none⟩) N cu, .int .i64 (n + 2), c14, c15, c16, c17, .int .i64 j, c19, .int .u64 g, c21, .int .u64 0, .int .u64 0, .int .i64 0, c25, c26, c27, c28, c29, c30, c31, c32, c33, c34, c35, c36, c37, c38, c39, c40, c41, c42, c43, c44, c45, c46, c47, c48, c49, c50, c51, c52, c53, c54, c55, c56, c57, c58, c59, c60, c61, c62, c63, c64, c65, c66, c67, c68, c69, c70, c71, c72, c73, c74, c75, c76, c77, c78, c79, c80, c81, c82, c83, c84, c85, c86, c87, c88, c89, c90, c91, c92, c93, c94, c95, c96, c97, c98, c99, c100, c101, c102, c103, c104, c105, c106, c107, c108, c109, c110, c111, c112, c113, c114, c115, c116, c117, c118, c119, c120, c121, c122, c123, c124, c125, c126, c127, c128, c129, c130, c131, c132, c133, c134, c135, c136, c137, c138, c139, c140, c141, c142, c143, c144, c145, c146, c147, c148, c149, c150, c151, c152, c153, c154, c155, c156, c157, c158, c159, c160, c161, c162, c163, c164, c165, c166, c167, c168, c169, c170, c171, c172, c173, c174, c175, c176, c177, c178, c179, c180, c181, c182, c183, c184, c185, c186, c187, c188, c189, c190, c191, c192, c193, c194, c195, c196, c197, c198, c199, c200, c201, c202, c203, c204, c205, c206, c207, c208, c209, c210, c211, c212, c213, c214, c215, c216, c217, c218, c219, c220, c221, c222, c223, c224, c225, c226, c227, c228, c229, c230, c231, c232, c233, c234, c235, c236, c237, c238, c239, c240, c241, c242, c243, c244, c245, c246, c247, c248, c249, c250, c251, c252, c253, c254, c255, c256, c257, c258, c259, c260, c261, c262, c263, c264, c265, c266, c267, c268, c269, c270, c271, c272], []⟩ w := by
  conv => arg 2; whnf
  have HVL := hide hvl
  have HUL := hide hul
  clear hvl hul
  go_wp2
  go_loopw [22, 23, 24] (fun cv dv iv wr => ∃ k c d : Nat, k ≤ n + 2 ∧ c < 4294967296 ∧ d ≤ 1 ∧ cv = .int .u64 c ∧ dv = .int .u64 d ∧ iv = .int .i64 k ∧ Hid (SubInv w0 wr gu gq us qs vs j g k c d) ∧ Hid (VC vb voff vs wr)) (fun _ _ iv _ => n + 2 - (intOf iv).toNat)
  case atStart => exact ⟨0, 0, 0, Nat.zero_le _, by omega, by omega, rfl, rfl, rfl, h0.out, v0.out⟩
  case round =>
  clear h0 v0
  obtain ⟨k, c, d, hk, hc, hd, rfl, rfl, rfl, HI, HV⟩ := hrel
  by_cases hlt : k < n + 2
  · have hkv : k < vs.length := by rw [HVL.out]; exact hlt
    have hku : j + k < us.length := by rw [HUL.out]; omega
    obtain ⟨v, ev⟩ : ∃ x, x = vs[k] := ⟨_, rfl⟩
    obtain ⟨u, eu⟩ : ∃ x, x = us[j + k] := ⟨_, rfl⟩
    have hv := sv.out.get k hkv
    have hu := su.out.get (j + k) hku
    rw [← ev] at hv
    rw [← eu] at hu
    have c1 : wr.cell? ⟨vb, voff + k, none⟩ = some (.int .u32 (v : Nat)) := by rw [HV.out k hkv, ev]
    have c2 : wr.cell? ⟨gu, k + j, none⟩ = some (.int .u32 (u : Nat)) := by
      obtain ⟨mid, h1, h2, h3, h4, h5, h6⟩ := HI.out
      have hl := win_length us mid j k h1 (by omega)
      rw [Nat.add_comm, h3.cell (j + k) (by rw [hl]; exact hku), (List.getElem?_eq_some_iff.1 (win_get us mid j k h1 hku)).2, eu]
    have c3 : wr.frozen? ⟨gu, k + j, none⟩ = false := by
      obtain ⟨mid, h1, h2, h3, h4, h5, h6⟩ := HI.out
      exact h3.free _
    have hp : (g : Int) * (v : Int) ≤ 18446744065119617025 := mul_bd g v hg hv
    have hp0 : 0 ≤ (g : Int) * (v : Int) := Int.mul_nonneg (by omega) (by omega)
    obtain ⟨T, x, e, t1, t2, t3, t4, t5, t6, t7⟩ := sub_word u ((c + g * v) % 4294967296) d hu (Nat.mod_lt _ (by decide)) hd
    have ec : ((((c + g * v) % 4294967296 : Nat)) : Int) = ((c : Int) + (g : Int) * (v : Int)) % 4294967296 := by rw [Int.natCast_emod, Int.natCast_add, Int.natCast_mul]; rfl
    rw [ec] at t1
    have ST := hide (And.intro t3 (And.intro t4 (And.intro t5 (And.intro t6 t7))))
    have EV := hide ev
    have EU := hide eu
    clear t3 t4 t5 t6 t7 ec ev eu
    go_wp2
    go_roundw
    case rel =>
      obtain ⟨t3, t4, t5, t6, t7⟩ := ST.out
      refine ⟨k + 1, (c + g * v) / 4294967296, e, by omega, carry_bd2 g v c hg hv hc, t5, by rw [carry_cast2], by rw [← t3, Int.natCast_ediv]; rfl, by go_num, ?_, ?_⟩
      · have st := SubInv.step HI.out hkv hku hgu hne x e ((T : Int) % 4294967296) (by omega) t6 (by rw [← EV.out, ← EU.out]; exact t7)
        rw [← EV.out, Nat.add_comm j k] at st
        exact st
      · exact HV.out.set _ _ _ hvb
    case measure => simp [intOf]; omega
  · obtain rfl : k = n + 2 := by omega
    go_wp2
    exact hK.out wr c d _ _ _ _ _ _ _ _ _ _ _ _ _ _ _ _ _ _ _ _ _ _ _ _ _ _ _ _ _ _ _ _ _ _ _ _ _ _ _ _ _ _  rfl rfl hc hd HI.out HV.out
end Go.Proofs.YtgdiepfknfnmjaaGreatDoor

namespace Go.Proofs.YtgdiepfknfnmjaaGreatDoor
open Go.RowKit
set_option linter.unusedVariables false

set_option maxHeartbeats 2000000 in
set_option maxRecDepth 100000 in
theorem back_block (K : Act → World → Prop) (Q' : Exit → Act → World → Prop) (w0 w : World) (gu gq vb voff cv N cu j n : Nat) (us qs vs : List Nat)
    (hvl : vs.length = n + 2) (hul : us.length = N) (hcv : n + 2 ≤ cv) (hcv2 : cv ≤ 9223372036854775807) (hj : j + n + 2 < N) (hN : N ≤ 1000000000) (su : Hid (Sm us)) (sv : Hid (Sm vs))
    (hgu : w0.heap.size ≤ gu) (hne : gq ≠ gu) (hvb : vb ≠ gu)
    (h0 : Hid (BackInv w0 w gu gq us qs vs j 0 0)) (v0 : Hid (VC vb voff vs w))
    (c0 c1 c2 c3 c4 c5 c6 c7 c8 c9 c10 c14 c15 c16 c17 c19 c20 c21 c23 c24 c25 c26 c28 c29 c30 c31 c32 c33 c34 c35 c36 c37 c38 c39 c40 c41 c42 c43 c44 c45 c46 c47 c48 c49 c50 c51 c52 c53 c54 c55 c56 c57 c58 c59 c60 c61 c62 c63 c64 c65 c66 c67 c68 c69 c70 c71 c72 c73 c74 c75 c76 c77 c78 c79 c80 c81 c82 c83 c84 c85 c86 c87 c88 c89 c90 c91 c92 c93 c94 c95 c96 c97 c98 c99 c100 c101 c102 c103 c104 c105 c106 c107 c108 c109 c110 c111 c112 c113 c114 c115 c116 c117 c118 c119 c120 c121 c122 c123 c124 c125 c126 c127 c128 c129 c130 c131 c132 c133 c134 c135 c136 c137 c138 c139 c140 c141 c142 c143 c144 c145 c146 c147 c148 c149 c150 c151 c152 c153 c154 c155 c156 c157 c158 c159 c160 c161 c162 c163 c164 c165 c166 c167 c168 c169 c170 c171 c172 c173 c174 c175 c176 c177 c178 c179 c180 c181 c182 c183 c184 c185 c186 c187 c188 c189 c190 c191 c192 c193 c194 c195 c196 c197 c198 c199 c200 c201 c202 c203 c204 c205 c206 c207 c208 c209 c210 c211 c212 c213 c214 c215 c216 c217 c218 c219 c220 c221 c222 c223 c224 c225 c226 c227 c228 c229 c230 c231 c232 c233 c234 c235 c236 c237 c238 c239 c240 c241 c242 c243 c244 c245 c246 c247 c248 c249 c250 c251 c252 c253 c254 c255 c256 c257 c258 c259 c260 c261 c262 c263 c264 c265 c266 c267 c268 c269 c270 c271 c272 : Value)
    (hK : Hid (∀ (wr : World) (c : Nat) (cz : Int) (u27 u223 u224 u225 u226 u227 u228 u229 u230 u231 u232 u233 u234 u235 u236 u237 u238 u239 u240 u241 u242 u243 u244 u245 u246 u247 u248 u249 u250 u251 : Value), cz = (c : Int) → c ≤ 1 → BackInv w0 wr gu gq us qs vs j (n + 2) c → VC vb voff vs wr → K ⟨#[c0, c1, c2, c3, c4, c5, c6, c7, c8, c9, c10, .slice (some ⟨vb, voff, none⟩) (n + 2) cv, .slice (some ⟨gu, 0, none⟩) N cu, .int .i64 (n + 2), c14, c15, c16, c17, .int .i64 j, c19, c20, c21, .int .u64 cz, c23, c24, c25, c26, u27, c28, c29, c30, c31, c32, c33, c34, c35, c36, c37, c38, c39, c40, c41, c42, c43, c44, c45, c46, c47, c48, c49, c50, c51, c52, c53, c54, c55, c56, c57, c58, c59, c60, c61, c62, c63, c64, c65, c66, c67, c68, c69, c70, c71, c72, c73, c74, c75, c76, c77, c78, c79, c80, c81, c82, c83, c84, c85, c86, c87, c88, c89, c90, c91, c92, c93, c94, c95, c96, c97, c98, c99, c100, c101, c102, c103, c104, c105, c106, c107, c108, c109, c110, c111, c112, c113, c114, c115, c116, c117, c118, c119, c120, c121, c122, c123, c124, c125, c126, c127, c128, c129, c130, c131, c132, c133, c134, c135, c136, c137, c138, c139, c140, c141, c142, c143, c144, c145, c146, c147, c148, c149, c150, c151, c152, c153, c154, c155, c156, c157, c158, c159, c160, c161, c162, c163, c164, c165, c166, c167, c168, c169, c170, c171, c172, c173, c174, c175, c176, c177, c178, c179, c180, c181, c182, c183, c184, c185, c186, c187, c188, c189, c190, c191, c192, c193, c194, c195, c196, c197, c198, c199, c200, c201, c202, c203, c204, c205, c206, c207, c208, c209, c210, c211, c212, c213, c214, c215, c216, c217, c218, c219, c220, c221, c222, u223, u224, u225, u226, u227, u228, u229, u230, u231, u232, u233, u234, u235, u236, u237, u238, u239, u240, u241, u242, u243, u244, u245, u246, u247, u248, u249, u250, u251, c252, c253, c254, c255, c256, c257, c258, c259, c260, c261, c262, c263, c264, c265, c266, c267, c268, c269, c270, c271, c272], []⟩ wr)) :
    Code.wp Tryz.prog ((Tryz.f130.body.bind (findBlock 6)).getD .skip) (Exit.then K Q') ⟨#[c0, c1, c2, c3, c4, c5, c6, c7, c8, c9, c10, .slice (some ⟨vb, voff, none⟩) (n + 2) cv, .slice (some ⟨gu, 0, none⟩) N cu, .int .i64 (n + 2), c14, c15, c16, c17, .int .i64 j, c19, c20, c21, .int .u64 0, c23, c24, c25, c26, .int .i64 0, c28, c29, c30, c31, c32, c33, c34, c35, c36, c37, c38, c39, c40, c41, c42, c43, c44, c45, c46, c47, c48, c49, c50, c51, c52, c53, c54, c55, c56, c57, c58, c59, c60, c61, c62, c63, c64, c65, c66, c67, c68, c69, c70, c71, c72, c73, c74, c75, c76, c77, c78, c79, c80, c81, c82, c83, c84, c85, c86, c87, c88, c89, c90, c91, c92, c93, c94, c95, c96, c97, c98, c99, c100, c101, c102, c103, c104, c105, c106, c107, c108, c109, c110, c111, c112, c113, c114, c115, c116, c117, c118, c119, c120, c121, c122, c123, c124, c125, c126, c127, c128, c129, c130, c131, c132, c133, c134, c135, c136, c137, c138, c139, c140, c141, c142, c143, c144, c145, c146, c147, c148, c149, c150, c151, c152, c153, c154, c155, c156, c157, c158, c159, c160, c161, c162, c163, c164, c165, c166, c167, c168, c169, c170, c171, c172, c173, c174, c175, c176, c177, c178, c179, c180, c181, c182, c183, c184, c185, c186, c187, c188, c189, c190, c191, c192, c193, c194, c195, c196, c197, c198, c199, c200, c201, c202, c203, c204, c205, c206, c207, c208, c209, c210, c211, c212, c213, c214, c215, c216, c217, c218, c219, c220, c221, c222, c223, c224, c225, c226, c227, c228, c229, c230, c231, c232, c233, c234, c235, c236, c237, c238, c239, c240, c241, c242, c243, c244, c245, c246, c247, c248, c249, c250, c251, c252, c253, c254, c255, c256, c257, c258, c259, c260, c261, c262, c263, c264, c265, c266, c267, c268, c269, c270, c271, c272], []⟩ w := by
  conv => arg 2; whnf
  have HVL := hide hvl
  have HUL := hide hul
  clear hvl hul
  go_wp2
  go_loopw [22, 27] (fun cv iv wr => ∃ k c : Nat, k ≤ n + 2 ∧ c ≤ 1 ∧ cv = .int .u64 c ∧ iv = .int .i64 k ∧ Hid (BackInv w0 wr gu gq us qs vs j k c) ∧ Hid (VC vb voff vs wr)) (fun _ iv _ => n + 2 - (intOf iv).toNat)
  case atStart => exact ⟨0, 0, Nat.zero_le _, by omega, rfl, rfl, h0.out, v0.out⟩
  case round =>
  clear h0 v0
  obtain ⟨k, c, hk, hc, rfl, rfl, HI, HV⟩ := hrel
  by_cases hlt : k < n + 2
  · have hkv : k < vs.length := by rw [HVL.out]; exact hlt
    have hku : j + k < us.length := by rw [HUL.out]; omega
    obtain ⟨v, ev⟩ : ∃ x, x = vs[k] := ⟨_, rfl⟩
    obtain ⟨u, eu⟩ : ∃ x, x = us[j + k] := ⟨_, rfl⟩
    have hv := sv.out.get k hkv
    have hu := su.out.get (j + k) hku
    rw [← ev] at hv
    rw [← eu] at hu
    have c1 : wr.cell? ⟨vb, voff + k, none⟩ = some (.int .u32 (v : Nat)) := by rw [HV.out k hkv, ev]
    have c2 : wr.cell? ⟨gu, k + j, none⟩ = some (.int .u32 (u : Nat)) := by
      obtain ⟨mid, h1, h2, h3, h4, h5, h6⟩ := HI.out
      have hl := win_length us mid j k h1 (by omega)
      rw [Nat.add_comm, h3.cell (j + k) (by rw [hl]; exact hku), (List.getElem?_eq_some_iff.1 (win_get us mid j k h1 hku)).2, eu]
    have c3 : wr.frozen? ⟨gu, k + j, none⟩ = false := by
      obtain ⟨mid, h1, h2, h3, h4, h5, h6⟩ := HI.out
      exact h3.free _
    have EV := hide ev
    have EU := hide eu
    clear ev eu
    go_wp2
    go_quiet (fail)
    go_wp2
    go_roundw
    case rel =>
      refine ⟨k + 1, (c + u + v) / 4294967296, by omega, by omega, by go_num, by go_num, ?_, ?_⟩
      · have st := BackInv.step HI.out hkv hku hgu hne (((c : Int) + ((u : Int) + (v : Int))) % 4294967296) (by rw [← EV.out, ← EU.out]; omega)
        rw [← EV.out, ← EU.out, Nat.add_comm j k] at st
        exact BackInv.drewN st _
      · exact VC.drewN (HV.out.set _ _ _ hvb) _
    case measure => simp [intOf]; omega
  · obtain rfl : k = n + 2 := by omega
    go_wp2
    exact hK.out wr c _ _ _ _ _ _ _ _ _ _ _ _ _ _ _ _ _ _ _ _ _ _ _ _ _ _ _ _ _ _ _  rfl hc HI.out HV.out
end Go.Proofs.YtgdiepfknfnmjaaGreatDoor
