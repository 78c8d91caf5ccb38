/- Contracts that the proof leans on. -/
import Derived.Test.YthblidglcppakaaGreatDoorXCBa
import Derived.Deep.Light
namespace Go.Proofs.YthblidglcppakaaGreatDoor
open Go.RowKit
set_option linter.unusedVariables false
set_option linter.unusedSimpArgs false
set_option maxHeartbeats 8000000
set_option maxRecDepth 10000
def cY (n:Nat):Code->Option Code
 | .block m c=>if m=n then some (.block m c) else cY n c
 | .seq a b=>match cY n a with
  | some c=>some c
  | none=>cY n b
 | .loop c=>cY n c
 | .scope c=>cY n c
 | .cond _ a b=>match cY n a with
  | some c=>some c
  | none=>cY n b
 | _=>none
theorem tY (K:Act->World->Prop) (Q':Exit->Act->World->Prop) (w:World) (gu N cu j n U V P vt vn V0 hh uc U0 g0 r0:Nat)
  (kd:Hid (KD 4294967296 U V P vt vn V0 hh uc U0)) (hvt:vt<4294967296) (hvn:vn<4294967296) (huc:uc<4294967296) (hcell:w.cell? ⟨gu,j+(n+2)-2,none⟩=some (.int .u32 uc)) (hj:j+n+2<N) (hN:N<=10000000000000)
  (h0:Hid (g0*vt+r0=hh/\U / V<=g0)) (hg0:g0<18446744073709551616) (hr0:r0<4294967296)
  (c0 c1 c2 c3 c4 c5 c6 c7 c8 c9 c10 c11 c14 c15 c19 c22 c23 c24 c25 c26 c27 c28 c29 c30 c31 c32 c33 c34 c35 c36 c37 c38 c39 c40 c41 c42 c43 c44 c45 c46 c47 c48 c49 c50 c51 c52 c53 c54 c55 c56 c57 c58 c59 c60 c61 c62 c63 c64 c65 c66 c67 c68 c69 c70 c71 c72 c73 c74 c75 c76 c77 c78 c79 c80 c81 c82 c83 c84 c85 c86 c87 c88 c89 c90 c91 c92 c93 c94 c95 c96 c97 c98 c99 c100 c101 c102 c103 c104 c105 c106 c107 c108 c109 c110 c111 c112 c113 c114 c115 c116 c117 c118 c119 c120 c121 c122 c123 c124 c125 c126 c127 c128 c129 c130 c131 c132 c133 c134 c135 c136 c137 c138 c139 c140 c141 c142 c143 c144 c145 c146 c147 c148 c149 c150 c151 c152 c153 c154 c155 c156 c157 c158 c159 c160 c161 c162 c163 c164 c165 c166 c167 c168 c169 c170 c171 c172 c173 c174 c175 c176 c177 c178 c179 c180 c181 c182 c183 c184 c185 c186 c187 c188 c189 c190 c191 c192 c193 c194 c195 c196 c197 c198 c199 c200 c201 c202 c203 c204 c205 c206 c207 c208 c209 c210 c211 c212 c213 c214 c215 c216 c217 c218 c219 c220 c221 c222 c223 c224 c225 c226 c227 c228 c229 c230 c231 c232 c233 c234 c235 c236 c237 c238 c239 c240 c241 c242 c243 c244 c245 c246 c247 c248 c249 c250 c251 c252 c253 c254 c255 c256 c257 c258 c259 c260 c261 c262 c263 c264 c265 c266 c267 c268 c269 c270 c271 c272:Value)
  (hK:Hid (∀ (g:Nat) (gz:Int) (u21 u136 u137 u138 u139 u140 u141 u142 u143 u144 u145 u146 u147 u148 u149 u150 u151 u152 u153 u154 u155 u156 u157 u158 u159 u160 u161:Value),gz=(g:Int)->g<4294967296->U / V<=g->g<=U / V+1->K ⟨#[c0,c1,c2,c3,c4,c5,c6,c7,c8,c9,c10,c11,.slice (some ⟨gu,0,none⟩) N cu,.int .i64 (n+2),c14,c15,.int .u64 vt,.int .u64 vn,.int .i64 j,c19,.int .u64 gz,u21,c22,c23,c24,c25,c26,c27,c28,c29,c30,c31,c32,c33,c34,c35,c36,c37,c38,c39,c40,c41,c42,c43,c44,c45,c46,c47,c48,c49,c50,c51,c52,c53,c54,c55,c56,c57,c58,c59,c60,c61,c62,c63,c64,c65,c66,c67,c68,c69,c70,c71,c72,c73,c74,c75,c76,c77,c78,c79,c80,c81,c82,c83,c84,c85,c86,c87,c88,c89,c90,c91,c92,c93,c94,c95,c96,c97,c98,c99,c100,c101,c102,c103,c104,c105,c106,c107,c108,c109,c110,c111,c112,c113,c114,c115,c116,c117,c118,c119,c120,c121,c122,c123,c124,c125,c126,c127,c128,c129,c130,c131,c132,c133,c134,c135,u136,u137,u138,u139,u140,u141,u142,u143,u144,u145,u146,u147,u148,u149,u150,u151,u152,u153,u154,u155,u156,u157,u158,u159,u160,u161,c162,c163,c164,c165,c166,c167,c168,c169,c170,c171,c172,c173,c174,c175,c176,c177,c178,c179,c180,c181,c182,c183,c184,c185,c186,c187,c188,c189,c190,c191,c192,c193,c194,c195,c196,c197,c198,c199,c200,c201,c202,c203,c204,c205,c206,c207,c208,c209,c210,c211,c212,c213,c214,c215,c216,c217,c218,c219,c220,c221,c222,c223,c224,c225,c226,c227,c228,c229,c230,c231,c232,c233,c234,c235,c236,c237,c238,c239,c240,c241,c242,c243,c244,c245,c246,c247,c248,c249,c250,c251,c252,c253,c254,c255,c256,c257,c258,c259,c260,c261,c262,c263,c264,c265,c266,c267,c268,c269,c270,c271,c272],[]⟩ w)) :
  Code.wp Tryz.prog ((Tryz.f94.body.bind (cY 2)).getD .skip) (Exit.then K Q') ⟨#[c0,c1,c2,c3,c4,c5,c6,c7,c8,c9,c10,c11,.slice (some ⟨gu,0,none⟩) N cu,.int .i64 (n+2),c14,c15,.int .u64 vt,.int .u64 vn,.int .i64 j,c19,.int .u64 g0,.int .u64 r0,c22,c23,c24,c25,c26,c27,c28,c29,c30,c31,c32,c33,c34,c35,c36,c37,c38,c39,c40,c41,c42,c43,c44,c45,c46,c47,c48,c49,c50,c51,c52,c53,c54,c55,c56,c57,c58,c59,c60,c61,c62,c63,c64,c65,c66,c67,c68,c69,c70,c71,c72,c73,c74,c75,c76,c77,c78,c79,c80,c81,c82,c83,c84,c85,c86,c87,c88,c89,c90,c91,c92,c93,c94,c95,c96,c97,c98,c99,c100,c101,c102,c103,c104,c105,c106,c107,c108,c109,c110,c111,c112,c113,c114,c115,c116,c117,c118,c119,c120,c121,c122,c123,c124,c125,c126,c127,c128,c129,c130,c131,c132,c133,c134,c135,c136,c137,c138,c139,c140,c141,c142,c143,c144,c145,c146,c147,c148,c149,c150,c151,c152,c153,c154,c155,c156,c157,c158,c159,c160,c161,c162,c163,c164,c165,c166,c167,c168,c169,c170,c171,c172,c173,c174,c175,c176,c177,c178,c179,c180,c181,c182,c183,c184,c185,c186,c187,c188,c189,c190,c191,c192,c193,c194,c195,c196,c197,c198,c199,c200,c201,c202,c203,c204,c205,c206,c207,c208,c209,c210,c211,c212,c213,c214,c215,c216,c217,c218,c219,c220,c221,c222,c223,c224,c225,c226,c227,c228,c229,c230,c231,c232,c233,c234,c235,c236,c237,c238,c239,c240,c241,c242,c243,c244,c245,c246,c247,c248,c249,c250,c251,c252,c253,c254,c255,c256,c257,c258,c259,c260,c261,c262,c263,c264,c265,c266,c267,c268,c269,c270,c271,c272],[]⟩ w:=by
 conv=>arg 2;whnf
 go_wp2;go_loop [20,21] (fun gv rv=>∃ g r:Nat,gv=.int .u64 g/\rv=.int .u64 r/\r<4294967296/\g<18446744073709551616/\Hid (g*vt+r=hh/\U / V<=g)) (fun gv _=>(intOf gv).toNat)
 case atStart=>exact ⟨g0,r0,rfl,rfl,hr0,hg0,h0.out⟩
 case round =>
 clear h0 hg0 hr0;obtain ⟨g,r,rfl,rfl,hr,hg,HI⟩:=hrel;have hor:=jq r uc hr huc;obtain ⟨m,em⟩:∃ x,x=r*4294967296+uc:=⟨_,rfl⟩;rw [<- em] at hor;have EM:=ab em;have hmb:m<18446744073709551616:=by omega
 clear em;by_cases hbig:4294967296<=g
 ·have HQ:=ab (kd.out.keep HI.out.1 (.inl hbig));have hg1:1<=g:=by omega
  by_cases hbr:r+vt<4294967296
  ·go_wp2;go_round
   case rel=>exact ⟨g-1,r+vt,by go_num,by go_num,hbr,by omega,bW HI.out.1 hg1,by have:=HQ.out;omega⟩
   case measure=>simp [intOf];omega
  ·go_wp2;have hb:=kd.out.brk (bW HI.out.1 hg1) (Nat.le_of_not_lt hbr);refine hK.out (g-1) _ _ _ _ _ _ _ _ _ _ _ _ _ _ _ _ _ _ _ _ _ _ _ _ _ _ _ _  ?_ hb.1 (by have:=HQ.out;omega) (kd.out.exit (bW HI.out.1 hg1) hb.1 hb.2);omega
 ·have hp:(g:Int)*(vn:Int)<=18446744065119617025:=lC g vn (by omega) hvn;have hp0:0<=(g:Int)*(vn:Int):=Int.mul_nonneg (by omega) (by omega);by_cases ht:m<g*vn
  ·have ht':(m:Int)<(g:Int)*(vn:Int):=by rw [<- Int.natCast_mul];omega
   have HQ:=ab (kd.out.keep HI.out.1 (.inr (by rw [<- EM.out];exact ht)));have hg1:1<=g:=Nat.lt_of_le_of_lt (Nat.zero_le _) HQ.out;clear ht;by_cases hbr:r+vt<4294967296
   ·go_wp2;go_round
    case rel=>exact ⟨g-1,r+vt,by go_num,by go_num,hbr,by omega,bW HI.out.1 hg1,by have:=HQ.out;omega⟩
    case measure=>simp [intOf];omega
   ·go_wp2;have hb:=kd.out.brk (bW HI.out.1 hg1) (Nat.le_of_not_lt hbr);refine hK.out (g-1) _ _ _ _ _ _ _ _ _ _ _ _ _ _ _ _ _ _ _ _ _ _ _ _ _ _ _ _  ?_ hb.1 (by have:=HQ.out;omega) (kd.out.exit (bW HI.out.1 hg1) hb.1 hb.2);omega
  ·have ht':¬ (m:Int)<(g:Int)*(vn:Int):=by rw [<- Int.natCast_mul];omega
   have HT':=ab ht;clear ht;go_wp2;exact hK.out g _ _ _ _ _ _ _ _ _ _ _ _ _ _ _ _ _ _ _ _ _ _ _ _ _ _ _ _  rfl (by omega) HI.out.2 (kd.out.exit HI.out.1 (by omega) (by have:=HT'.out;rw [<- EM.out];omega))
end Go.Proofs.YthblidglcppakaaGreatDoor
