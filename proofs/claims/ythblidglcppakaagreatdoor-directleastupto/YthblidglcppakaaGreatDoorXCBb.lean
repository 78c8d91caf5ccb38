/- Contracts that the proof leans on. -/
import Derived.Test.YthblidglcppakaaGreatDoorXDivG
import Derived.Deep.Light
import Derived.Deep.CutBlock
import Derived.Deep.DeepCutAuto
import Derived.Deep.RegionWith
import Derived.Deep.LoopGhost
namespace Go.Proofs.YthblidglcppakaaGreatDoor
open Go.RowKit
set_option linter.unusedVariables false
set_option linter.unusedSimpArgs false
set_option maxHeartbeats 8000000
set_option maxRecDepth 10000
theorem yV (g v c:Nat) (hg:g<4294967296) (hv:v<4294967296) (hc:c<4294967296):(c+g*v) / 4294967296<4294967296:=by
 have:g*v<=4294967295*4294967295:=Nat.mul_le_mul (by omega) (by omega);omega
theorem tA (g v c:Nat):(((c:Int)+(g:Int)*(v:Int)) / 4294967296)=(((c+g*v) / 4294967296:Nat):Int):=by
 rw [Int.natCast_ediv,Int.natCast_add,Int.natCast_mul];rfl
theorem Ax (K:Act->World->Prop) (Q':Exit->Act->World->Prop) (w0 w:World) (gu gq vb voff cv N cu j n g:Nat) (us qs vs:List Nat)
  (hvl:vs.length=n+2) (hul:us.length=N) (hcv:n+2<=cv) (hcv2:cv<=9223372036854775807) (hg:g<4294967296) (hj:j+n+2<N) (hN:N<=10000000000000) (su:Hid (Sm us)) (sv:Hid (Sm vs))
  (hgu:w0.heap.size<=gu) (hne:gq≠gu) (hvb:vb≠gu)
  (h0:Hid (gO w0 w gu gq us qs vs j g 0 0 0)) (v0:Hid (VC vb voff vs w))
  (c0 c1 c2 c3 c4 c5 c6 c7 c8 c9 c10 c14 c15 c16 c17 c19 c21 c25 c26 c27 c28 c29 c30 c31 c32 c33 c34 c35 c36 c37 c38 c39 c40 c41 c42 c43 c44 c45 c46 c47 c48 c49 c50 c51 c52 c53 c54 c55 c56 c57 c58 c59 c60 c61 c62 c63 c64 c65 c66 c67 c68 c69 c70 c71 c72 c73 c74 c75 c76 c77 c78 c79 c80 c81 c82 c83 c84 c85 c86 c87 c88 c89 c90 c91 c92 c93 c94 c95 c96 c97 c98 c99 c100 c101 c102 c103 c104 c105 c106 c107 c108 c109 c110 c111 c112 c113 c114 c115 c116 c117 c118 c119 c120 c121 c122 c123 c124 c125 c126 c127 c128 c129 c130 c131 c132 c133 c134 c135 c136 c137 c138 c139 c140 c141 c142 c143 c144 c145 c146 c147 c148 c149 c150 c151 c152 c153 c154 c155 c156 c157 c158 c159 c160 c161 c162 c163 c164 c165 c166 c167 c168 c169 c170 c171 c172 c173 c174 c175 c176 c177 c178 c179 c180 c181 c182 c183 c184 c185 c186 c187 c188 c189 c190 c191 c192 c193 c194 c195 c196 c197 c198 c199 c200 c201 c202 c203 c204 c205 c206 c207 c208 c209 c210 c211 c212 c213 c214 c215 c216 c217 c218 c219 c220 c221 c222 c223 c224 c225 c226 c227 c228 c229 c230 c231 c232 c233 c234 c235 c236 c237 c238 c239 c240 c241 c242 c243 c244 c245 c246 c247 c248 c249 c250 c251 c252 c253 c254 c255 c256 c257 c258 c259 c260 c261 c262 c263 c264 c265 c266 c267 c268 c269 c270 c271 c272:Value)
  (hK:Hid (∀ (wr:World) (c d:Nat) (cz dz:Int) (u24 u25 u162 u163 u164 u165 u166 u167 u168 u169 u170 u171 u172 u173 u174 u175 u176 u177 u178 u179 u180 u181 u182 u183 u184 u185 u186 u187 u188 u189 u190 u191 u192 u193 u194 u195 u196 u197 u198 u199:Value),cz=(c:Int)->dz=(d:Int)->c<4294967296->d<=1->gO w0 wr gu gq us qs vs j g (n+2) c d->VC vb voff vs wr->K ⟨#[c0,c1,c2,c3,c4,c5,c6,c7,c8,c9,c10,.slice (some ⟨vb,voff,none⟩) (n+2) cv,.slice (some ⟨gu,0,none⟩) N cu,.int .i64 (n+2),c14,c15,c16,c17,.int .i64 j,c19,.int .u64 g,c21,.int .u64 cz,.int .u64 dz,u24,u25,c26,c27,c28,c29,c30,c31,c32,c33,c34,c35,c36,c37,c38,c39,c40,c41,c42,c43,c44,c45,c46,c47,c48,c49,c50,c51,c52,c53,c54,c55,c56,c57,c58,c59,c60,c61,c62,c63,c64,c65,c66,c67,c68,c69,c70,c71,c72,c73,c74,c75,c76,c77,c78,c79,c80,c81,c82,c83,c84,c85,c86,c87,c88,c89,c90,c91,c92,c93,c94,c95,c96,c97,c98,c99,c100,c101,c102,c103,c104,c105,c106,c107,c108,c109,c110,c111,c112,c113,c114,c115,c116,c117,c118,c119,c120,c121,c122,c123,c124,c125,c126,c127,c128,c129,c130,c131,c132,c133,c134,c135,c136,c137,c138,c139,c140,c141,c142,c143,c144,c145,c146,c147,c148,c149,c150,c151,c152,c153,c154,c155,c156,c157,c158,c159,c160,c161,u162,u163,u164,u165,u166,u167,u168,u169,u170,u171,u172,u173,u174,u175,u176,u177,u178,u179,u180,u181,u182,u183,u184,u185,u186,u187,u188,u189,u190,u191,u192,u193,u194,u195,u196,u197,u198,u199,c200,c201,c202,c203,c204,c205,c206,c207,c208,c209,c210,c211,c212,c213,c214,c215,c216,c217,c218,c219,c220,c221,c222,c223,c224,c225,c226,c227,c228,c229,c230,c231,c232,c233,c234,c235,c236,c237,c238,c239,c240,c241,c242,c243,c244,c245,c246,c247,c248,c249,c250,c251,c252,c253,c254,c255,c256,c257,c258,c259,c260,c261,c262,c263,c264,c265,c266,c267,c268,c269,c270,c271,c272],[]⟩ wr)) :
  Code.wp Tryz.prog ((Tryz.f94.body.bind (cY 4)).getD .skip) (Exit.then K Q') ⟨#[c0,c1,c2,c3,c4,c5,c6,c7,c8,c9,c10,.slice (some ⟨vb,voff,none⟩) (n+2) cv,.slice (some ⟨gu,0,none⟩) N cu,.int .i64 (n+2),c14,c15,c16,c17,.int .i64 j,c19,.int .u64 g,c21,.int .u64 0,.int .u64 0,.int .i64 0,c25,c26,c27,c28,c29,c30,c31,c32,c33,c34,c35,c36,c37,c38,c39,c40,c41,c42,c43,c44,c45,c46,c47,c48,c49,c50,c51,c52,c53,c54,c55,c56,c57,c58,c59,c60,c61,c62,c63,c64,c65,c66,c67,c68,c69,c70,c71,c72,c73,c74,c75,c76,c77,c78,c79,c80,c81,c82,c83,c84,c85,c86,c87,c88,c89,c90,c91,c92,c93,c94,c95,c96,c97,c98,c99,c100,c101,c102,c103,c104,c105,c106,c107,c108,c109,c110,c111,c112,c113,c114,c115,c116,c117,c118,c119,c120,c121,c122,c123,c124,c125,c126,c127,c128,c129,c130,c131,c132,c133,c134,c135,c136,c137,c138,c139,c140,c141,c142,c143,c144,c145,c146,c147,c148,c149,c150,c151,c152,c153,c154,c155,c156,c157,c158,c159,c160,c161,c162,c163,c164,c165,c166,c167,c168,c169,c170,c171,c172,c173,c174,c175,c176,c177,c178,c179,c180,c181,c182,c183,c184,c185,c186,c187,c188,c189,c190,c191,c192,c193,c194,c195,c196,c197,c198,c199,c200,c201,c202,c203,c204,c205,c206,c207,c208,c209,c210,c211,c212,c213,c214,c215,c216,c217,c218,c219,c220,c221,c222,c223,c224,c225,c226,c227,c228,c229,c230,c231,c232,c233,c234,c235,c236,c237,c238,c239,c240,c241,c242,c243,c244,c245,c246,c247,c248,c249,c250,c251,c252,c253,c254,c255,c256,c257,c258,c259,c260,c261,c262,c263,c264,c265,c266,c267,c268,c269,c270,c271,c272],[]⟩ w:=by
 conv=>arg 2;whnf
 have HVL:=ab hvl;have HUL:=ab hul;clear hvl hul;go_wp2;go_loopw [22,23,24] (fun cv dv iv wr=>∃ k c d:Nat,k<=n+2/\c<4294967296/\d<=1/\cv=.int .u64 c/\dv=.int .u64 d/\iv=.int .i64 k/\Hid (gO w0 wr gu gq us qs vs j g k c d)/\Hid (VC vb voff vs wr)) (fun _ _ iv _=>n+2-(intOf iv).toNat)
 case atStart=>exact ⟨0,0,0,Nat.zero_le _,by omega,by omega,rfl,rfl,rfl,h0.out,v0.out⟩
 case round =>
 clear h0 v0;obtain ⟨k,c,d,hk,hc,hd,rfl,rfl,rfl,HI,HV⟩:=hrel;by_cases hlt:k<n+2
 ·have hkv:k<vs.length:=by rw [HVL.out];exact hlt
  have hku:j+k<us.length:=by rw [HUL.out];omega
  obtain ⟨v,ev⟩:∃ x,x=vs[k]:=⟨_,rfl⟩;obtain ⟨u,eu⟩:∃ x,x=us[j+k]:=⟨_,rfl⟩;have hv:=sv.out.get k hkv;have hu:=su.out.get (j+k) hku;rw [<- ev] at hv;rw [<- eu] at hu;have c1:wr.cell? ⟨vb,voff+k,none⟩=some (.int .u32 (v:Nat)):=by rw [HV.out k hkv,ev]
  have c2:wr.cell? ⟨gu,k+j,none⟩=some (.int .u32 (u:Nat)):=by
   obtain ⟨mid,h1,h2,h3,h4,h5,h6⟩:=HI.out;have hl:=jy us mid j k h1 (by omega);rw [Nat.add_comm,h3.cell (j+k) (by rw [hl];exact hku),(List.getElem?_eq_some_iff.1 (mA us mid j k h1 hku)).2,eu]
  have c3:wr.frozen? ⟨gu,k+j,none⟩=false:=by
   obtain ⟨mid,h1,h2,h3,h4,h5,h6⟩:=HI.out;exact h3.free _
  have hp:(g:Int)*(v:Int)<=18446744065119617025:=lC g v hg hv;have hp0:0<=(g:Int)*(v:Int):=Int.mul_nonneg (by omega) (by omega);obtain ⟨T,x,e,t1,t2,t3,t4,t5,t6,t7⟩:=vj u ((c+g*v) % 4294967296) d hu (Nat.mod_lt _ (by decide)) hd;have ec:((((c+g*v) % 4294967296:Nat)):Int)=((c:Int)+(g:Int)*(v:Int)) % 4294967296:=by rw [Int.natCast_emod,Int.natCast_add,Int.natCast_mul];rfl
  rw [ec] at t1;have ST:=ab (And.intro t3 (And.intro t4 (And.intro t5 (And.intro t6 t7))));have EV:=ab ev;have EU:=ab eu;clear t3 t4 t5 t6 t7 ec ev eu;go_wp2;go_roundw
  case rel =>
   obtain ⟨t3,t4,t5,t6,t7⟩:=ST.out;refine ⟨k+1,(c+g*v) / 4294967296,e,by omega,yV g v c hg hv hc,t5,by rw [tA],by rw [<- t3,Int.natCast_ediv];rfl,by go_num,?_,?_⟩
   ·have st:=gO.step HI.out hkv hku hgu hne x e ((T:Int) % 4294967296) (by omega) t6 (by rw [<- EV.out,<- EU.out];exact t7);rw [<- EV.out,Nat.add_comm j k] at st;exact st
   ·exact HV.out.set _ _ _ hvb
  case measure=>simp [intOf];omega
 ·obtain rfl:k=n+2:=by omega
  go_wp2;exact hK.out wr c d _ _ _ _ _ _ _ _ _ _ _ _ _ _ _ _ _ _ _ _ _ _ _ _ _ _ _ _ _ _ _ _ _ _ _ _ _ _ _ _ _ _  rfl rfl hc hd HI.out HV.out
theorem vX (K:Act->World->Prop) (Q':Exit->Act->World->Prop) (w0 w:World) (gu gq vb voff cv N cu j n:Nat) (us qs vs:List Nat)
  (hvl:vs.length=n+2) (hul:us.length=N) (hcv:n+2<=cv) (hcv2:cv<=9223372036854775807) (hj:j+n+2<N) (hN:N<=10000000000000) (su:Hid (Sm us)) (sv:Hid (Sm vs))
  (hgu:w0.heap.size<=gu) (hne:gq≠gu) (hvb:vb≠gu)
  (h0:Hid (db w0 w gu gq us qs vs j 0 0)) (v0:Hid (VC vb voff vs w))
  (c0 c1 c2 c3 c4 c5 c6 c7 c8 c9 c10 c14 c15 c16 c17 c19 c20 c21 c23 c24 c25 c26 c28 c29 c30 c31 c32 c33 c34 c35 c36 c37 c38 c39 c40 c41 c42 c43 c44 c45 c46 c47 c48 c49 c50 c51 c52 c53 c54 c55 c56 c57 c58 c59 c60 c61 c62 c63 c64 c65 c66 c67 c68 c69 c70 c71 c72 c73 c74 c75 c76 c77 c78 c79 c80 c81 c82 c83 c84 c85 c86 c87 c88 c89 c90 c91 c92 c93 c94 c95 c96 c97 c98 c99 c100 c101 c102 c103 c104 c105 c106 c107 c108 c109 c110 c111 c112 c113 c114 c115 c116 c117 c118 c119 c120 c121 c122 c123 c124 c125 c126 c127 c128 c129 c130 c131 c132 c133 c134 c135 c136 c137 c138 c139 c140 c141 c142 c143 c144 c145 c146 c147 c148 c149 c150 c151 c152 c153 c154 c155 c156 c157 c158 c159 c160 c161 c162 c163 c164 c165 c166 c167 c168 c169 c170 c171 c172 c173 c174 c175 c176 c177 c178 c179 c180 c181 c182 c183 c184 c185 c186 c187 c188 c189 c190 c191 c192 c193 c194 c195 c196 c197 c198 c199 c200 c201 c202 c203 c204 c205 c206 c207 c208 c209 c210 c211 c212 c213 c214 c215 c216 c217 c218 c219 c220 c221 c222 c223 c224 c225 c226 c227 c228 c229 c230 c231 c232 c233 c234 c235 c236 c237 c238 c239 c240 c241 c242 c243 c244 c245 c246 c247 c248 c249 c250 c251 c252 c253 c254 c255 c256 c257 c258 c259 c260 c261 c262 c263 c264 c265 c266 c267 c268 c269 c270 c271 c272:Value)
  (hK:Hid (∀ (wr:World) (c:Nat) (cz:Int) (u27 u223 u224 u225 u226 u227 u228 u229 u230 u231 u232 u233 u234 u235 u236 u237 u238 u239 u240 u241 u242 u243 u244 u245 u246 u247 u248 u249 u250 u251:Value),cz=(c:Int)->c<=1->db w0 wr gu gq us qs vs j (n+2) c->VC vb voff vs wr->K ⟨#[c0,c1,c2,c3,c4,c5,c6,c7,c8,c9,c10,.slice (some ⟨vb,voff,none⟩) (n+2) cv,.slice (some ⟨gu,0,none⟩) N cu,.int .i64 (n+2),c14,c15,c16,c17,.int .i64 j,c19,c20,c21,.int .u64 cz,c23,c24,c25,c26,u27,c28,c29,c30,c31,c32,c33,c34,c35,c36,c37,c38,c39,c40,c41,c42,c43,c44,c45,c46,c47,c48,c49,c50,c51,c52,c53,c54,c55,c56,c57,c58,c59,c60,c61,c62,c63,c64,c65,c66,c67,c68,c69,c70,c71,c72,c73,c74,c75,c76,c77,c78,c79,c80,c81,c82,c83,c84,c85,c86,c87,c88,c89,c90,c91,c92,c93,c94,c95,c96,c97,c98,c99,c100,c101,c102,c103,c104,c105,c106,c107,c108,c109,c110,c111,c112,c113,c114,c115,c116,c117,c118,c119,c120,c121,c122,c123,c124,c125,c126,c127,c128,c129,c130,c131,c132,c133,c134,c135,c136,c137,c138,c139,c140,c141,c142,c143,c144,c145,c146,c147,c148,c149,c150,c151,c152,c153,c154,c155,c156,c157,c158,c159,c160,c161,c162,c163,c164,c165,c166,c167,c168,c169,c170,c171,c172,c173,c174,c175,c176,c177,c178,c179,c180,c181,c182,c183,c184,c185,c186,c187,c188,c189,c190,c191,c192,c193,c194,c195,c196,c197,c198,c199,c200,c201,c202,c203,c204,c205,c206,c207,c208,c209,c210,c211,c212,c213,c214,c215,c216,c217,c218,c219,c220,c221,c222,u223,u224,u225,u226,u227,u228,u229,u230,u231,u232,u233,u234,u235,u236,u237,u238,u239,u240,u241,u242,u243,u244,u245,u246,u247,u248,u249,u250,u251,c252,c253,c254,c255,c256,c257,c258,c259,c260,c261,c262,c263,c264,c265,c266,c267,c268,c269,c270,c271,c272],[]⟩ wr)) :
  Code.wp Tryz.prog ((Tryz.f94.body.bind (cY 6)).getD .skip) (Exit.then K Q') ⟨#[c0,c1,c2,c3,c4,c5,c6,c7,c8,c9,c10,.slice (some ⟨vb,voff,none⟩) (n+2) cv,.slice (some ⟨gu,0,none⟩) N cu,.int .i64 (n+2),c14,c15,c16,c17,.int .i64 j,c19,c20,c21,.int .u64 0,c23,c24,c25,c26,.int .i64 0,c28,c29,c30,c31,c32,c33,c34,c35,c36,c37,c38,c39,c40,c41,c42,c43,c44,c45,c46,c47,c48,c49,c50,c51,c52,c53,c54,c55,c56,c57,c58,c59,c60,c61,c62,c63,c64,c65,c66,c67,c68,c69,c70,c71,c72,c73,c74,c75,c76,c77,c78,c79,c80,c81,c82,c83,c84,c85,c86,c87,c88,c89,c90,c91,c92,c93,c94,c95,c96,c97,c98,c99,c100,c101,c102,c103,c104,c105,c106,c107,c108,c109,c110,c111,c112,c113,c114,c115,c116,c117,c118,c119,c120,c121,c122,c123,c124,c125,c126,c127,c128,c129,c130,c131,c132,c133,c134,c135,c136,c137,c138,c139,c140,c141,c142,c143,c144,c145,c146,c147,c148,c149,c150,c151,c152,c153,c154,c155,c156,c157,c158,c159,c160,c161,c162,c163,c164,c165,c166,c167,c168,c169,c170,c171,c172,c173,c174,c175,c176,c177,c178,c179,c180,c181,c182,c183,c184,c185,c186,c187,c188,c189,c190,c191,c192,c193,c194,c195,c196,c197,c198,c199,c200,c201,c202,c203,c204,c205,c206,c207,c208,c209,c210,c211,c212,c213,c214,c215,c216,c217,c218,c219,c220,c221,c222,c223,c224,c225,c226,c227,c228,c229,c230,c231,c232,c233,c234,c235,c236,c237,c238,c239,c240,c241,c242,c243,c244,c245,c246,c247,c248,c249,c250,c251,c252,c253,c254,c255,c256,c257,c258,c259,c260,c261,c262,c263,c264,c265,c266,c267,c268,c269,c270,c271,c272],[]⟩ w:=by
 conv=>arg 2;whnf
 have HVL:=ab hvl;have HUL:=ab hul;clear hvl hul;go_wp2;go_loopw [22,27] (fun cv iv wr=>∃ k c:Nat,k<=n+2/\c<=1/\cv=.int .u64 c/\iv=.int .i64 k/\Hid (db w0 wr gu gq us qs vs j k c)/\Hid (VC vb voff vs wr)) (fun _ iv _=>n+2-(intOf iv).toNat)
 case atStart=>exact ⟨0,0,Nat.zero_le _,by omega,rfl,rfl,h0.out,v0.out⟩
 case round =>
 clear h0 v0;obtain ⟨k,c,hk,hc,rfl,rfl,HI,HV⟩:=hrel;by_cases hlt:k<n+2
 ·have hkv:k<vs.length:=by rw [HVL.out];exact hlt
  have hku:j+k<us.length:=by rw [HUL.out];omega
  obtain ⟨v,ev⟩:∃ x,x=vs[k]:=⟨_,rfl⟩;obtain ⟨u,eu⟩:∃ x,x=us[j+k]:=⟨_,rfl⟩;have hv:=sv.out.get k hkv;have hu:=su.out.get (j+k) hku;rw [<- ev] at hv;rw [<- eu] at hu;have c1:wr.cell? ⟨vb,voff+k,none⟩=some (.int .u32 (v:Nat)):=by rw [HV.out k hkv,ev]
  have c2:wr.cell? ⟨gu,k+j,none⟩=some (.int .u32 (u:Nat)):=by
   obtain ⟨mid,h1,h2,h3,h4,h5,h6⟩:=HI.out;have hl:=jy us mid j k h1 (by omega);rw [Nat.add_comm,h3.cell (j+k) (by rw [hl];exact hku),(List.getElem?_eq_some_iff.1 (mA us mid j k h1 hku)).2,eu]
  have c3:wr.frozen? ⟨gu,k+j,none⟩=false:=by
   obtain ⟨mid,h1,h2,h3,h4,h5,h6⟩:=HI.out;exact h3.free _
  have EV:=ab ev;have EU:=ab eu;clear ev eu;go_wp2;go_quiet (fail)
  go_wp2;go_roundw
  case rel =>
   refine ⟨k+1,(c+u+v) / 4294967296,by omega,by omega,by go_num,by go_num,?_,?_⟩
   ·have st:=db.step HI.out hkv hku hgu hne (((c:Int)+((u:Int)+(v:Int))) % 4294967296) (by rw [<- EV.out,<- EU.out];omega);rw [<- EV.out,<- EU.out,Nat.add_comm j k] at st;exact db.drewN st _
   ·exact VC.drewN (HV.out.set _ _ _ hvb) _
  case measure=>simp [intOf];omega
 ·obtain rfl:k=n+2:=by omega
  go_wp2;exact hK.out wr c _ _ _ _ _ _ _ _ _ _ _ _ _ _ _ _ _ _ _ _ _ _ _ _ _ _ _ _ _ _ _  rfl hc HI.out HV.out
theorem yH (us W D:List Nat) (j:Nat) (hj:j<=us.length):(us.take j++W++D).take j=us.take j:=by
 have hl:(us.take j).length=j:=by rw [List.length_take];omega
 rw [List.append_assoc,List.take_append_of_le_length (by omega),List.take_of_length_le (by omega)]
theorem oC (us W D:List Nat) (j:Nat) (hj:j<=us.length):(us.take j++W++D).drop j=W++D:=by
 have hl:(us.take j).length=j:=by rw [List.length_take];omega
 rw [List.append_assoc,List.drop_append_of_le_length (by omega),List.drop_of_length_le (by omega),List.nil_append]
theorem Dl (us W D:List Nat) (j k:Nat) (hj:j<=us.length) (hk:W.length=k):(us.take j++W++D).drop (j+k)=D:=by
 rw [<- List.drop_drop,oC us W D j hj,List.drop_append_of_le_length (by omega),List.drop_of_length_le (by omega),List.nil_append]
theorem wl_get (us W D:List Nat) (j i:Nat) (hj:j<=us.length) (hi:i<W.length):(us.take j++W++D)[j+i]? = W[i]?:=by
 rw [<- List.getElem?_drop,oC us W D j hj,List.getElem?_append_left hi]
theorem cQ.done {w wr wr':World} {gu gq:Nat} {vs:List Nat} {N A j:Nat} {us qs W:List Nat} (h:cQ w wr gu gq vs N A (j+1) us qs) (sv:Sm vs) (hj:j+vs.length<us.length) (hq:ak (us.drop j) / ak vs<4294967296)
  (hW:W.length=vs.length+1) (sW:Sm W) (vW:ak W=ak (us.drop j) % ak vs) (a1:ch wr' gu (us.take j++W++us.drop (j+(vs.length+1)))) (a2:ch wr' gq (List.replicate (j+1) 0++qs)) (hg:w.grownBy wr' none)
  (hgq:w.heap.size<=gq) (hne:gq≠gu) (z:Int) (hz:z=((ak (us.drop j) / ak vs:Nat):Int)) :
  cQ w (wr'.setCell ⟨gq,j,none⟩ (.int .u32 z)) gu gq vs N A j (us.take j++W++us.drop (j+(vs.length+1))) ((ak (us.drop j) / ak vs) :: qs):=by
 have h':=h;obtain ⟨i1,i2,i3,i4,i5,i6,i7,i8,i9⟩:=h';have hz0:=(mB sv i3 hj i8).2.2;refine cQ.next h hq (by simp [hW];omega) (yH _ _ _ _ (by omega)) ?_ (((i3.take _).append sW).append (i3.drop _)) a1 a2 hg hgq hne z hz;rw [oC _ _ _ _ (by omega),bN,hz0,vW];simp
theorem vY {w wr:World} {gu gq:Nat} {us qs vs:List Nat} {j:Nat} (h1:ch wr gu us) (h2:ch wr gq qs) (hg:w.grownBy wr none):db w wr gu gq us qs vs j 0 0 :=
 ⟨[],rfl,Sm.nil,by rw [List.append_nil,Nat.add_zero,List.take_append_drop];exact h1,h2,hg,by simp [ak]⟩
theorem Ay {w wr:World} {gu gq:Nat} {us qs vs:List Nat} {j g:Nat} (h1:ch wr gu us) (h2:ch wr gq qs) (hg:w.grownBy wr none):gO w wr gu gq us qs vs j g 0 0 0 :=
 ⟨[],rfl,Sm.nil,by rw [List.append_nil,Nat.add_zero,List.take_append_drop];exact h1,h2,hg,by simp [ak]⟩
theorem uT (K:Act->World->Prop) (Q':Exit->Act->World->Prop) (w wr:World) (gu gq vb voff cv N M A j n vt vn:Nat) (vs us qs:List Nat)
  (hD:cQ w wr gu gq vs N A (j+1) us qs) (hV:Hid (VC vb voff vs wr)) (sv:Hid (Sm vs)) (hn:Hid (vs.length=n+2)) (evt:Hid (vs[n+1]? = some vt)) (evn:Hid (vs[n]? = some vn)) (hvt31:2147483648<=vt) (hvtb:vt<4294967296) (hvnb:vn<4294967296)
  (hgu:w.heap.size<=gu) (hgq:w.heap.size<=gq) (hqu:gu<gq) (hvbu:vb<gu) (hjN:j+n+2<N) (hjM:j<M) (hN:N<=10000000000000) (hM:M<=N) (hcv:n+2<=cv) (hcv2:cv<=9223372036854775807)
  (c0 c1 c2 c3 c4 c5 c6 c7 c8 c9 c10 c14 c19 c20 c21 c22 c23 c24 c25 c26 c27 c28 c29 c30 c31 c32 c33 c34 c35 c36 c37 c38 c39 c40 c41 c42 c43 c44 c45 c46 c47 c48 c49 c50 c51 c52 c53 c54 c55 c56 c57 c58 c59 c60 c61 c62 c63 c64 c65 c66 c67 c68 c69 c70 c71 c72 c73 c74 c75 c76 c77 c78 c79 c80 c81 c82 c83 c84 c85 c86 c87 c88 c89 c90 c91 c92 c93 c94 c95 c96 c97 c98 c99 c100 c101 c102 c103 c104 c105 c106 c107 c108 c109 c110 c111 c112 c113 c114 c115 c116 c117 c118 c119 c120 c121 c122 c123 c124 c125 c126 c127 c128 c129 c130 c131 c132 c133 c134 c135 c136 c137 c138 c139 c140 c141 c142 c143 c144 c145 c146 c147 c148 c149 c150 c151 c152 c153 c154 c155 c156 c157 c158 c159 c160 c161 c162 c163 c164 c165 c166 c167 c168 c169 c170 c171 c172 c173 c174 c175 c176 c177 c178 c179 c180 c181 c182 c183 c184 c185 c186 c187 c188 c189 c190 c191 c192 c193 c194 c195 c196 c197 c198 c199 c200 c201 c202 c203 c204 c205 c206 c207 c208 c209 c210 c211 c212 c213 c214 c215 c216 c217 c218 c219 c220 c221 c222 c223 c224 c225 c226 c227 c228 c229 c230 c231 c232 c233 c234 c235 c236 c237 c238 c239 c240 c241 c242 c243 c244 c245 c246 c247 c248 c249 c250 c251 c252 c253 c254 c255 c256 c257 c258 c259 c260 c261 c262 c263 c264 c265 c266 c267 c268 c269 c270 c271 c272:Value)
  (hK:Hid (∀ (wr':World) (us2 qs2:List Nat) (u19 u20 u21 u22 u23 u24 u25 u26 u27 u113 u114 u115 u116 u117 u118 u119 u120 u121 u122 u123 u124 u125 u126 u127 u128 u129 u130 u131 u132 u133 u134 u135 u136 u137 u138 u139 u140 u141 u142 u143 u144 u145 u146 u147 u148 u149 u150 u151 u152 u153 u154 u155 u156 u157 u158 u159 u160 u161 u162 u163 u164 u165 u166 u167 u168 u169 u170 u171 u172 u173 u174 u175 u176 u177 u178 u179 u180 u181 u182 u183 u184 u185 u186 u187 u188 u189 u190 u191 u192 u193 u194 u195 u196 u197 u198 u199 u200 u201 u202 u203 u204 u205 u206 u207 u208 u209 u210 u211 u212 u213 u214 u215 u216 u217 u218 u219 u220 u221 u222 u223 u224 u225 u226 u227 u228 u229 u230 u231 u232 u233 u234 u235 u236 u237 u238 u239 u240 u241 u242 u243 u244 u245 u246 u247 u248 u249 u250 u251 u252 u253 u254 u255 u256 u257 u258 u259 u260 u261 u262 u263 u264 u265 u266:Value),cQ w wr' gu gq vs N A j us2 qs2->VC vb voff vs wr'->K ⟨#[c0,c1,c2,c3,c4,c5,c6,c7,c8,c9,c10,.slice (some ⟨vb,voff,none⟩) (n+2) cv,.slice (some ⟨gu,0,none⟩) N N,.int .i64 (n+2),c14,.slice (some ⟨gq,0,none⟩) M M,.int .u64 vt,.int .u64 vn,.int .i64 j,u19,u20,u21,u22,u23,u24,u25,u26,u27,c28,c29,c30,c31,c32,c33,c34,c35,c36,c37,c38,c39,c40,c41,c42,c43,c44,c45,c46,c47,c48,c49,c50,c51,c52,c53,c54,c55,c56,c57,c58,c59,c60,c61,c62,c63,c64,c65,c66,c67,c68,c69,c70,c71,c72,c73,c74,c75,c76,c77,c78,c79,c80,c81,c82,c83,c84,c85,c86,c87,c88,c89,c90,c91,c92,c93,c94,c95,c96,c97,c98,c99,c100,c101,c102,c103,c104,c105,c106,c107,c108,c109,c110,c111,c112,u113,u114,u115,u116,u117,u118,u119,u120,u121,u122,u123,u124,u125,u126,u127,u128,u129,u130,u131,u132,u133,u134,u135,u136,u137,u138,u139,u140,u141,u142,u143,u144,u145,u146,u147,u148,u149,u150,u151,u152,u153,u154,u155,u156,u157,u158,u159,u160,u161,u162,u163,u164,u165,u166,u167,u168,u169,u170,u171,u172,u173,u174,u175,u176,u177,u178,u179,u180,u181,u182,u183,u184,u185,u186,u187,u188,u189,u190,u191,u192,u193,u194,u195,u196,u197,u198,u199,u200,u201,u202,u203,u204,u205,u206,u207,u208,u209,u210,u211,u212,u213,u214,u215,u216,u217,u218,u219,u220,u221,u222,u223,u224,u225,u226,u227,u228,u229,u230,u231,u232,u233,u234,u235,u236,u237,u238,u239,u240,u241,u242,u243,u244,u245,u246,u247,u248,u249,u250,u251,u252,u253,u254,u255,u256,u257,u258,u259,u260,u261,u262,u263,u264,u265,u266,c267,c268,c269,c270,c271,c272],[]⟩ wr')) :
  Code.wp Tryz.prog ((Tryz.f94.body.bind (cY 1)).getD .skip) (Exit.then K Q') ⟨#[c0,c1,c2,c3,c4,c5,c6,c7,c8,c9,c10,.slice (some ⟨vb,voff,none⟩) (n+2) cv,.slice (some ⟨gu,0,none⟩) N N,.int .i64 (n+2),c14,.slice (some ⟨gq,0,none⟩) M M,.int .u64 vt,.int .u64 vn,.int .i64 j,c19,c20,c21,c22,c23,c24,c25,c26,c27,c28,c29,c30,c31,c32,c33,c34,c35,c36,c37,c38,c39,c40,c41,c42,c43,c44,c45,c46,c47,c48,c49,c50,c51,c52,c53,c54,c55,c56,c57,c58,c59,c60,c61,c62,c63,c64,c65,c66,c67,c68,c69,c70,c71,c72,c73,c74,c75,c76,c77,c78,c79,c80,c81,c82,c83,c84,c85,c86,c87,c88,c89,c90,c91,c92,c93,c94,c95,c96,c97,c98,c99,c100,c101,c102,c103,c104,c105,c106,c107,c108,c109,c110,c111,c112,c113,c114,c115,c116,c117,c118,c119,c120,c121,c122,c123,c124,c125,c126,c127,c128,c129,c130,c131,c132,c133,c134,c135,c136,c137,c138,c139,c140,c141,c142,c143,c144,c145,c146,c147,c148,c149,c150,c151,c152,c153,c154,c155,c156,c157,c158,c159,c160,c161,c162,c163,c164,c165,c166,c167,c168,c169,c170,c171,c172,c173,c174,c175,c176,c177,c178,c179,c180,c181,c182,c183,c184,c185,c186,c187,c188,c189,c190,c191,c192,c193,c194,c195,c196,c197,c198,c199,c200,c201,c202,c203,c204,c205,c206,c207,c208,c209,c210,c211,c212,c213,c214,c215,c216,c217,c218,c219,c220,c221,c222,c223,c224,c225,c226,c227,c228,c229,c230,c231,c232,c233,c234,c235,c236,c237,c238,c239,c240,c241,c242,c243,c244,c245,c246,c247,c248,c249,c250,c251,c252,c253,c254,c255,c256,c257,c258,c259,c260,c261,c262,c263,c264,c265,c266,c267,c268,c269,c270,c271,c272],[]⟩ wr:=by
 have ID:=ab hD;obtain ⟨i1,i2,i3,i4,i5,i6,i7,i8,i9⟩:=hD;obtain ⟨ua,eua⟩:∃ x,us[j+(n+2)]? = some x:=⟨_,List.getElem?_eq_getElem (by omega)⟩;obtain ⟨ub',eub⟩:∃ x,us[j+(n+1)]? = some x:=⟨_,List.getElem?_eq_getElem (by omega)⟩;obtain ⟨uc,euc⟩:∃ x,us[j+n]? = some x:=⟨_,List.getElem?_eq_getElem (by omega)⟩;have ca':wr.cell? ⟨gu,j+(n+2),none⟩=some (.int .u32 (ua:Nat)):=by rw [i5.cell _ (by omega),(List.getElem?_eq_some_iff.1 eua).2]
 have cb':wr.cell? ⟨gu,j+(n+1),none⟩=some (.int .u32 (ub':Nat)):=by rw [i5.cell _ (by omega),(List.getElem?_eq_some_iff.1 eub).2]
 have cc':wr.cell? ⟨gu,j+(n+2)-2,none⟩=some (.int .u32 (uc:Nat)):=by rw [show j+(n+2)-2=j+n from by omega,i5.cell _ (by omega),(List.getElem?_eq_some_iff.1 euc).2]
 have CC:=ab cc';have hua:ua<4294967296:=by have:=i3.get (j+(n+2)) (by omega);rw [(List.getElem?_eq_some_iff.1 eua).2] at this;exact this
 have hub:ub'<4294967296:=by have:=i3.get (j+(n+1)) (by omega);rw [(List.getElem?_eq_some_iff.1 eub).2] at this;exact this
 have huc:uc<4294967296:=by have:=i3.get (j+n) (by omega);rw [(List.getElem?_eq_some_iff.1 euc).2] at this;exact this
 have hor:=jq ua ub' hua hub;obtain ⟨hh,ehh⟩:∃ x,x=ua*4294967296+ub':=⟨_,rfl⟩;rw [<- ehh] at hor;have hhb:hh<18446744073709551616:=by omega
 have KK:=ab (cQ.kd ID.out sv.out hn.out vt vn ua ub' uc evt.out evn.out eua eub euc hvt31);rw [<- ehh] at KK;have hgb:hh / vt<18446744073709551616:=Nat.lt_of_le_of_lt (Nat.div_le_self _ _) hhb;have hrb:hh % vt<4294967296:=Nat.lt_trans (Nat.mod_lt _ (by omega)) hvtb;obtain ⟨g0,eg0⟩:∃ x,x=hh / vt:=⟨_,rfl⟩;obtain ⟨r0,er0⟩:∃ x,x=hh % vt:=⟨_,rfl⟩;have hq1:((hh:Int) / (vt:Int))=(g0:Int):=by rw [eg0,Int.natCast_ediv]
 have HQ2:Hid (((hh:Int) % (vt:Int))=(r0:Int)):=by rw [er0,Int.natCast_emod];rfl
 rw [<- eg0] at hgb;rw [<- er0] at hrb;have E0:Hid (g0*vt+r0=hh/\ak (us.drop j) / ak vs<=g0):=by
  rw [eg0,er0,Nat.mul_comm];exact ⟨Nat.div_add_mod hh vt,KK.out.init⟩
 have GB:=ab hgb;have RB:=ab hrb;have UL:=ab i1;have SU:=ab i3;have AU:=ab i5;have AQ:=ab i6;have GR:=ab i7;have EUA:=ab eua;have hjN2:j+vs.length<us.length:=by rw [hn.out];omega
 have JN2:=ab hjN2;clear i1 i2 i3 i4 i5 i6 i7 i8 i9 eua eub euc ehh eg0 er0 cc' hrb hjN2;conv=>arg 2;whnf
 go_wp2;go_quiet (fail)
 go_wp2;go_quiet (fail)
 go_upto_block 2 with fail
 rw [HQ2.out];refine tY _ _ _ gu N N j n (ak (us.drop j)) (ak vs) _ vt vn _ hh uc _ g0 r0 KK hvtb hvnb huc ?cell (by omega) hN E0 GB.out RB.out _ _ _ _ _ _ _ _ _ _ _ _ _ _ _ _ _ _ _ _ _ _ _ _ _ _ _ _ _ _ _ _ _ _ _ _ _ _ _ _ _ _ _ _ _ _ _ _ _ _ _ _ _ _ _ _ _ _ _ _ _ _ _ _ _ _ _ _ _ _ _ _ _ _ _ _ _ _ _ _ _ _ _ _ _ _ _ _ _ _ _ _ _ _ _ _ _ _ _ _ _ _ _ _ _ _ _ _ _ _ _ _ _ _ _ _ _ _ _ _ _ _ _ _ _ _ _ _ _ _ _ _ _ _ _ _ _ _ _ _ _ _ _ _ _ _ _ _ _ _ _ _ _ _ _ _ _ _ _ _ _ _ _ _ _ _ _ _ _ _ _ _ _ _ _ _ _ _ _ _ _ _ _ _ _ _ _ _ _ _ _ _ _ _ _ _ _ _ _ _ _ _ _ _ _ _ _ _ _ _ _ _ _ _ _ _ _ _ _ _ _ _ _ _ _ _ _ _ _ _ _ _ _ _ _ _ _ _ _ _ _ _ _ _ _ _ _ _ _ _ _ _ _ _ _ _ _ _ _ _ _ _ _ _ _ _ (ab ?_)
 case cell=>exact CC.out
 clear E0 GB RB hgb hq1 HQ2 CC ca' cb' hor hhb evt evn hvt31 hvtb hvnb;intro g gz v21 v136 v137 v138 v139 v140 v141 v142 v143 v144 v145 v146 v147 v148 v149 v150 v151 v152 v153 v154 v155 v156 v157 v158 v159 v160 v161 hgz hg hgq1 hgq2;subst hgz;have G1:=ab hgq1;have G2:=ab hgq2;clear hgq1 hgq2;go_upto_block 4 with fail
 refine Ax _ _ w _ gu gq vb voff cv N N j n g us (List.replicate (j+1) 0++qs) vs hn.out UL.out hcv hcv2 hg (by omega) hN SU sv hgu (by omega) (by omega) (ab ?s0) (ab ?v0) _ _ _ _ _ _ _ _ _ _ _ _ _ _ _ _ _ _ _ _ _ _ _ _ _ _ _ _ _ _ _ _ _ _ _ _ _ _ _ _ _ _ _ _ _ _ _ _ _ _ _ _ _ _ _ _ _ _ _ _ _ _ _ _ _ _ _ _ _ _ _ _ _ _ _ _ _ _ _ _ _ _ _ _ _ _ _ _ _ _ _ _ _ _ _ _ _ _ _ _ _ _ _ _ _ _ _ _ _ _ _ _ _ _ _ _ _ _ _ _ _ _ _ _ _ _ _ _ _ _ _ _ _ _ _ _ _ _ _ _ _ _ _ _ _ _ _ _ _ _ _ _ _ _ _ _ _ _ _ _ _ _ _ _ _ _ _ _ _ _ _ _ _ _ _ _ _ _ _ _ _ _ _ _ _ _ _ _ _ _ _ _ _ _ _ _ _ _ _ _ _ _ _ _ _ _ _ _ _ _ _ _ _ _ _ _ _ _ _ _ _ _ _ _ _ _ _ _ _ _ _ _ _ _ _ _ _ _ _ _ _ _ _ _ _ _ _ _ _ _ _ _ _ _ _ _ _ _ _ _ _ _ _ _ _ (ab ?_)
 case s0=>exact Ay AU.out AQ.out (ar GR.out _)
 case v0=>exact hV.out.drewN _
 clear AU AQ GR hV;intro wr2 c d cz dz v24 v25 v162 v163 v164 v165 v166 v167 v168 v169 v170 v171 v172 v173 v174 v175 v176 v177 v178 v179 v180 v181 v182 v183 v184 v185 v186 v187 v188 v189 v190 v191 v192 v193 v194 v195 v196 v197 v198 v199 hcz hdz hc hd hS hVC;subst hcz hdz;have ca2:wr2.cell? ⟨gu,j+(n+2),none⟩=some (.int .u32 (ua:Nat)):=by
  obtain ⟨mid,h1,h2,h3,h4,h5,h6⟩:=hS;have hju:j+(n+2)<us.length:=by rw [UL.out];omega
  have hl:=jy us mid j (n+2) h1 (by omega);rw [h3.cell (j+(n+2)) (by rw [hl];exact hju),(List.getElem?_eq_some_iff.1 (mA us mid j (n+2) h1 hju)).2,(List.getElem?_eq_some_iff.1 EUA.out).2]
 have cf2:wr2.frozen? ⟨gu,j+(n+2),none⟩=false:=by
  obtain ⟨mid,h1,h2,h3,h4,h5,h6⟩:=hS;exact h3.free _
 obtain ⟨T,x,e,t1,t2,t3,t4,t5,t6,t7⟩:=vj ua c d hua hc hd;have hju:j+vs.length<us.length:=JN2.out;have ST:=ab hS;rw [<- hn.out] at hS;obtain ⟨W,w1,w2,w3,w4,w5,w6,w7⟩:=gO.top hS hju hgu (by omega) x e ((T:Int) % 4294967296) (by omega) t6 (by
  have:us[j+vs.length]=ua:=by
   have h:=EUA.out;rw [<- hn.out] at h;exact (List.getElem?_eq_some_iff.1 h).2
  rw [this];exact t7)
 rw [hn.out] at w3 w4 w5;have hUw:=(mB sv.out SU.out hju (by obtain ⟨_,_,_,_,_,_,_,i8,_⟩:=ID.out;exact i8)).1;rw [hUw] at w6;have W1:=ab w1;have W2:=ab w2;have W3:=ab w3;have W4:=ab w4;have W5:=ab w5;have W6:=ab w6;have W7:=ab w7;have VC2:=ab hVC;have T3:=ab t3;have hV0:0<ak vs:=KK.out.pos;have HV0:=ab hV0;have QL:=ab KK.out.q_lt;clear w1 w2 w3 w4 w5 w6 w7 hVC hS t4 t5 t6 t7 hUw hV0 hju KK;by_cases he:e=0
 ·have hte:(((T:Int) / 9223372036854775808) != 0)=false:=by rw [bne_eq_false_iff_eq];omega
  obtain ⟨d1,d2⟩:=nE W6.out he G1.out HV0.out;have D1:=ab d1;have D2:=ab d2;have a2:=W4.out;have cq:∃ v,(wr2.setCell ⟨gu,j+(n+2),none⟩ (.int .u32 ((T:Int) % 4294967296))).cell? ⟨gq,j,none⟩=some v:=⟨_,a2.cell j (by simp;omega)⟩;have cfq:=a2.free j;obtain ⟨v0,cq⟩:=cq;clear d1 d2 a2 he t3;go_wp2_with fail;refine hK.out _ _ _ _ _ _ _ _ _ _ _ _ _ _ _ _ _ _ _ _ _ _ _ _ _ _ _ _ _ _ _ _ _ _ _ _ _ _ _ _ _ _ _ _ _ _ _ _ _ _ _ _ _ _ _ _ _ _ _ _ _ _ _ _ _ _ _ _ _ _ _ _ _ _ _ _ _ _ _ _ _ _ _ _ _ _ _ _ _ _ _ _ _ _ _ _ _ _ _ _ _ _ _ _ _ _ _ _ _ _ _ _ _ _ _ _ _ _ _ _ _ _ _ _ _ _ _ _ _ _ _ _ _ _ _ _ _ _ _ _ _ _ _ _ _ _ _ _ _ _ _ _ _ _ _ _ _ _ _ _ _ _ _ _ _ _ (cQ.done ID.out sv.out JN2.out QL.out W1.out W2.out D2.out (by rw [hn.out];exact W3.out) W4.out W5.out hgq (by omega) (g:Int) (by rw [D1.out])) ?_;exact VC.set (VC.set VC2.out _ _ _ (by omega)) _ _ _ (by omega)
 ·have he1:e=1:=by omega
  have hte:(((T:Int) / 9223372036854775808) != 0)=true:=by rw [bne_iff_ne];omega
  have hpW:=bD W2.out;rw [W1.out] at hpW;obtain ⟨d1,d2,d3⟩:=oV W6.out he1 G1.out G2.out hpW HV0.out;have D1:=ab d1;have D3:=ab d3;have hg1:1<=g:=d2;obtain ⟨us3,e3⟩:∃ l,l=us.take j++W++us.drop (j+(vs.length+1)):=⟨_,rfl⟩;have A3:=W3.out;rw [<- hn.out,<- e3,hn.out] at A3;have hul:=UL.out;have l3:us3.length=N:=by rw [e3];simp [W1.out];have:=JN2.out;omega
  have s3:Sm us3:=by rw [e3];exact ((SU.out.take _).append W2.out).append (SU.out.drop _)
  have hjl:j<=us.length:=by omega
  have g3:us3[j+(n+2)]? = some x:=by
   rw [e3,wl_get us W _ j (n+2) hjl (by rw [W1.out,hn.out];omega),<- hn.out];exact W7.out
  have k3:us3.take j=us.take j:=by rw [e3];exact yH _ _ _ _ hjl
  have k4:us3.drop j=W++us.drop (j+(vs.length+1)):=by rw [e3];exact oC _ _ _ _ hjl
  have k5:us3.drop (j+(vs.length+1))=us.drop (j+(vs.length+1)):=by
   have:=Dl us W (us.drop (j+(vs.length+1))) j (vs.length+1) hjl W1.out;rw [<- e3] at this;exact this
  have hR:ak (us.drop j) % ak vs<4294967296^vs.length:=Nat.lt_trans (Nat.mod_lt _ HV0.out) (bD sv.out);have HRR:=ab hR;have S3:=ab s3;have L3:=ab l3;have AA3:=ab A3;have K3:=ab k3;have K4:=ab k4;have K5:=ab k5;have GG3:=ab g3;clear d1 d2 d3 he he1 t3 hpW e3 A3 hul l3 s3 hjl g3 k3 k4 k5 hR G1 G2 W7 W6;go_upto_block 6 with fail
  refine vX _ _ w _ gu gq vb voff cv N N j n us3 (List.replicate (j+1) 0++qs) vs hn.out L3.out hcv hcv2 (by omega) hN S3 sv hgu (by omega) (by omega) (ab ?b0) (ab ?v1) _ _ _ _ _ _ _ _ _ _ _ _ _ _ _ _ _ _ _ _ _ _ _ _ _ _ _ _ _ _ _ _ _ _ _ _ _ _ _ _ _ _ _ _ _ _ _ _ _ _ _ _ _ _ _ _ _ _ _ _ _ _ _ _ _ _ _ _ _ _ _ _ _ _ _ _ _ _ _ _ _ _ _ _ _ _ _ _ _ _ _ _ _ _ _ _ _ _ _ _ _ _ _ _ _ _ _ _ _ _ _ _ _ _ _ _ _ _ _ _ _ _ _ _ _ _ _ _ _ _ _ _ _ _ _ _ _ _ _ _ _ _ _ _ _ _ _ _ _ _ _ _ _ _ _ _ _ _ _ _ _ _ _ _ _ _ _ _ _ _ _ _ _ _ _ _ _ _ _ _ _ _ _ _ _ _ _ _ _ _ _ _ _ _ _ _ _ _ _ _ _ _ _ _ _ _ _ _ _ _ _ _ _ _ _ _ _ _ _ _ _ _ _ _ _ _ _ _ _ _ _ _ _ _ _ _ _ _ _ _ _ _ _ _ _ _ _ _ _ _ _ _ _ _ _ _ _ _ _ _ _ _ _ _ _ _ _ (ab ?_)
  case b0=>exact vY AA3.out W4.out W5.out
  case v1=>exact VC.set VC2.out _ _ _ (by omega)
  intro wr4 c4 cz4 v27 v223 v224 v225 v226 v227 v228 v229 v230 v231 v232 v233 v234 v235 v236 v237 v238 v239 v240 v241 v242 v243 v244 v245 v246 v247 v248 v249 v250 v251 hcz4 hc4 hB hVC4;subst hcz4;clear AA3 W4 W5 VC2 W3 ca2 cf2 hte t1;have ca4:wr4.cell? ⟨gu,j+(n+2),none⟩=some (.int .u32 (x:Nat)):=by
   obtain ⟨mid,h1,h2,h3,h4,h5,h6⟩:=hB;have hju:j+(n+2)<us3.length:=by rw [L3.out];omega
   have hl:=jy us3 mid j (n+2) h1 (by omega);rw [h3.cell (j+(n+2)) (by rw [hl];exact hju),(List.getElem?_eq_some_iff.1 (mA us3 mid j (n+2) h1 hju)).2,(List.getElem?_eq_some_iff.1 GG3.out).2]
  have cf4:wr4.frozen? ⟨gu,j+(n+2),none⟩=false:=by
   obtain ⟨mid,h1,h2,h3,h4,h5,h6⟩:=hB;exact h3.free _
  have hju3:j+vs.length<us3.length:=by rw [L3.out,hn.out];omega
  have hxg:us3[j+vs.length]=x:=by
   have h:=GG3.out;rw [<- hn.out] at h;exact (List.getElem?_eq_some_iff.1 h).2
  have hWt:ak ((us3.drop j).take (vs.length+1))+ak vs=ak (us.drop j) % ak vs+4294967296^(vs.length+1):=by
   rw [K4.out,List.take_append_of_le_length (by rw [W1.out];exact Nat.le_refl _),List.take_of_length_le (by rw [W1.out];exact Nat.le_refl _)];exact D3.out
  rw [<- hn.out] at hB;obtain ⟨Y,y1,y2,y3,y4,y5,y6⟩:=db.top hB hju3 hgu (by omega) hxg hWt HRR.out (((x:Int)+(c4:Int)) % 4294967296) (by omega);rw [K3.out,K5.out] at y3;have Y1:=ab y1;have Y2:=ab y2;have Y6:=ab y6;have VC4:=ab hVC4;rw [hn.out] at y3 y4 y5;have Y3:=ab y3;have Y4:=ab y4;have Y5:=ab y5;have cq:∃ v,(wr4.setCell ⟨gu,j+(n+2),none⟩ (.int .u32 (((x:Int)+(c4:Int)) % 4294967296))).cell? ⟨gq,j,none⟩=some v:=⟨_,y4.cell j (by simp;omega)⟩;have cfq:=y4.free j;obtain ⟨v0,cq⟩:=cq;clear y1 y2 y3 y4 y5 y6 hVC4 hB hxg hWt;go_wp2_with fail;refine hK.out _ _ _ _ _ _ _ _ _ _ _ _ _ _ _ _ _ _ _ _ _ _ _ _ _ _ _ _ _ _ _ _ _ _ _ _ _ _ _ _ _ _ _ _ _ _ _ _ _ _ _ _ _ _ _ _ _ _ _ _ _ _ _ _ _ _ _ _ _ _ _ _ _ _ _ _ _ _ _ _ _ _ _ _ _ _ _ _ _ _ _ _ _ _ _ _ _ _ _ _ _ _ _ _ _ _ _ _ _ _ _ _ _ _ _ _ _ _ _ _ _ _ _ _ _ _ _ _ _ _ _ _ _ _ _ _ _ _ _ _ _ _ _ _ _ _ _ _ _ _ _ _ _ _ _ _ _ _ _ _ _ _ _ _ _ _ (cQ.done ID.out sv.out JN2.out QL.out Y1.out Y2.out Y6.out (by rw [hn.out];exact Y3.out) Y4.out Y5.out hgq (by omega) ((g:Int)-1) (by rw [D1.out];omega)) ?_;exact VC.set (VC.set VC4.out _ _ _ (by omega)) _ _ _ (by omega)
theorem Bp (va vb:Value) (xs ys:List Nat) (w:World) (ha:Ws w va xs) (hb:Ws w vb ys) (tx:Tr xs) (ty:Tr ys) (hx:2<xs.length) (hy:1<ys.length) (hle:ak ys<=ak xs) (hl:xs.length<=9000000000000) (hl2:ys.length<=xs.length) :
  Calls Tryz.prog 94 #[va,vb] w fun e w'=>∃ q r,e=.returned (.tuple #[q,r])/\aU w' q (ak xs / ak ys) xs.length/\aU w' r (ak xs % ak ys) (xs.length+2)/\w.grownBy w' none/\bA w q/\bA w r:=by
 obtain ⟨ao,ca,ea,hca,hca',Ha⟩:=ha.open;obtain ⟨bo,cb,eb,hcb,hcb',Hb⟩:=hb.open;unfold maxLen at hca' hcb';have hne1:(((ys.length:Nat):Int)==0)=false:=beq_eq_false_iff_ne.2 (by omega);have hne2:(((ys.length:Nat):Int)==1)=false:=beq_eq_false_iff_ne.2 (by omega);have WA:=ab ha;have WB:=ab hb;have TX:=ab tx;have TY:=ab ty;have HLE:=ab hle;subst ea eb;clear Ha Hb ha hb tx ty hle;go_enter Tryz.func94,Tryz.ntmps94
 go_wp2_with fail;refine (oP _ _ xs ys _ WA.out WB.out TX.out TY.out).mono ?_;rintro e w1 ⟨rfl,q1,rfl⟩;have hord:=mU HLE.out;generalize iG (ak xs) (ak ys)=o1 at hord ⊢;go_wp2_with fail;obtain ⟨t,ht1,ht2⟩:=xF TY.out (by intro e;rw [e] at hy;simp at hy);refine (zJ _ ys _ (WB.out.keep0 (ar (ae _ _) _)) (by omega) t ht1 ht2 (by omega)).mono ?_;rintro e w2 ⟨⟨n1,rfl,hn1,hn2,hn3,hn4⟩,rfl⟩;have HT:=ab (And.intro ht1 (And.intro hn3 hn4));clear ht1 hn3 hn4;go_wp2_with fail;obtain ⟨s,hs⟩:∃ s,s=32-n1:=⟨_,rfl⟩;have es:(32-((((ys.length:Nat):Int)-1)*32+(n1:Int)-1) % 32-1)=(s:Int):=by omega
 have hs32:s<32:=by omega
 have HS:=ab hs;simp only [es];clear es hs;refine (xX _ ys s _ (WB.out.keep0 (ar (ae _ _) _)) hs32 (by omega) (by omega)).mono ?_;rintro e w3 ⟨vv,rfl,⟨vs,v1,v2,v3,v4⟩,g3,f3⟩;obtain ⟨vlen,tt,htt,htb⟩:=uB ys vs t n1 s HS.out hn1 hn2 WB.out.sm (by omega) HT.out.1 HT.out.2.1 HT.out.2.2 v1.sm v2 v3;obtain ⟨vo,cv,rfl,hcv,hcv',Hv⟩:=v1.open;have HV:=ab Hv;have VB:=ab v1.blk;have V1:=ab v1;have V2:=ab v2;have V3:=ab v3;have G3:=ab (aa (ar (ae w none) q1) g3);have VL:=ab vlen;have HTT:=ab htt;have vl1:vs.length<=ys.length:=by omega
 have vl2:ys.length<=vs.length:=by omega
 clear Hv v1 v2 v3 v4 g3 f3 vlen htt;unfold maxLen at hcv';go_wp2_with (at_make;refine aD _ rfl _ _ 43 rfl Tryz.underlying43 Tryz.info32 _ _ _ _ (xs.length+2) rfl rfl (by omega) (by omega) (by omega) ?_)
 intro w4 harr hgr;have HU:=ab harr;have G4:=ab (aa G3.out hgr);have V4:=ab (V1.out.keep0 hgr);have hgu:w.heap.size<=w3.heap.size:=G3.out.size;generalize w3.heap.size=gu at *;clear harr hgr V1 G3 HV;go_wp2_with fail;refine (xX _ xs s _ (WA.out.keep0 G4.out) hs32 (by omega) (by omega)).mono ?_;rintro e w5 ⟨uv,rfl,⟨al,u1,u2,u3,u4⟩,g5,f5⟩;have HU5:=ab (HU.out.keep g5 (by simp));have G5:=ab (aa G4.out g5);have V5:=ab (V4.out.keep0 g5);have hal:0<al.length:=by
  rcases Nat.eq_zero_or_pos al.length with h | h
  ·exfalso
   have e0:al=[]:=List.eq_nil_of_length_eq_zero h;rw [e0] at u3;have p1:=Nat.two_pow_pos s;have p2:=iZ TX.out (by intro e;rw [e] at hx;simp at hx);have p3:0<4294967296^(xs.length-1):=Nat.pow_pos (by decide);have p4:0<ak xs*2^s:=Nat.mul_pos (by omega) p1;rw [<- u3] at p4;simp [ak] at p4
  ·exact h
 have ualen:=u4;have U1:=ab u1;have U3:=ab u3;obtain ⟨ua,cu,rfl,hcu,hcu',Hu⟩:=u1.open;obtain ⟨ub,uoff,rfl,hub,hjunk⟩:=Hu 0 hal;clear hjunk;have HUC:=ab Hu;clear HU G4 V4 g5 u1 u2 u3 u4 Hu f5 hcu';have hrun:=run_copy_row (P:=Tryz.prog) w5 43 43 3 140 gu 0 (xs.length+2) (xs.length+2) ⟨ub,uoff,none⟩ al.length cu (au (List.replicate (xs.length+2) 0)) 140 (au al).toList Tryz.underlying43 (by kernel_rfl) HU5.out
  (by show _=min _ _;simp [au];omega) (by
   intro j v hj;obtain ⟨hj',hju⟩:=List.getElem?_eq_some_iff.1 hj;have hjl:j<al.length:=by simpa [au] using hj'
   obtain ⟨b',o',e',_,hcc⟩:=HUC.out j hjl;simp only [Option.some.injEq,Addr.mk.injEq,and_true] at e';obtain ⟨rfl,rfl⟩:=e';rw [show (⟨ub,uoff,none⟩:Addr).add j=⟨ub,uoff+j,none⟩ from by simp [Addr.add],hcc,<- hju];simp [au]) (by simp [au];omega) (by
   intro u hu;simp only [au,List.mem_map] at hu;obtain ⟨x,_,rfl⟩:=hu;rfl)
 obtain ⟨c1,c2,c3⟩:=copied (al:=al) HU5.out G5.out hgu;generalize (w5.setRow gu ((au (List.replicate (xs.length+2) 0)).toList.take 0++(au al).toList++(au (List.replicate (xs.length+2) 0)).toList.drop (0+(au al).toList.length)).toArray)=w6 at hrun c1 c2 c3;generalize (goInt (au al).toList.length)=gi at hrun;have V6:=ab (V5.out.keep c3 (fun k e h=>by cases e;exact absurd (VB.out _ h) (Nat.lt_irrefl _)));have U6:=ab c1;have G6:=ab c2;clear c1 c2 c3 HU5 G5 V5 HUC;go_wp2_with (at_make;refine aD _ rfl _ _ 43 rfl Tryz.underlying43 Tryz.info32 _ _ _ _ (xs.length+2-vs.length) rfl rfl (by omega) (by omega) (by omega) ?_)
 intro w7 harr hgr;have Q7:=ab harr;have U7:=ab (U6.out.keep hgr (by simp));have G7:=ab (aa G6.out hgr);have V7:=ab (V6.out.keep0 hgr);have hgq:w.heap.size<=w6.heap.size:=G6.out.size;have hqu:gu<w6.heap.size:=U6.out.lt;generalize w6.heap.size=gq at *;clear harr hgr U6 G6 V6 hrun;obtain ⟨n,hn⟩:∃ n,vs.length=n+2:=⟨vs.length-2,by omega⟩;obtain ⟨vo',cv',ev,_,_,Hv⟩:=V7.out.open;simp only [Value.slice.injEq,true_and] at ev;obtain ⟨rfl,rfl⟩:=ev;obtain ⟨vb,voff,rfl,hvb,hjunk⟩:=Hv 0 (by omega);clear hjunk;have hvbu:vb<gu:=VB.out vb rfl;have hv:∀ i (h:i<vs.length),w7.cell? ⟨vb,voff+i,none⟩=some (.int .u32 (vs[i]:Nat)):=by
  intro i h;obtain ⟨b',o',e',_,hcc⟩:=Hv i h;simp only [Option.some.injEq,Addr.mk.injEq,and_true] at e';obtain ⟨rfl,rfl⟩:=e';exact hcc
 have HV:Hid (VC vb voff vs w7):=ab hv;obtain ⟨vt,evt⟩:∃ x,vs[n+1]? = some x:=⟨_,List.getElem?_eq_getElem (by omega)⟩;obtain ⟨vn,evn⟩:∃ x,vs[n]? = some x:=⟨_,List.getElem?_eq_getElem (by omega)⟩;have hc1:w7.cell? ⟨vb,voff+(n+1),none⟩=some (.int .u32 (vt:Nat)):=by rw [hv (n+1) (by omega),(List.getElem?_eq_some_iff.1 evt).2]
 have hc2:w7.cell? ⟨vb,voff+n,none⟩=some (.int .u32 (vn:Nat)):=by rw [hv n (by omega),(List.getElem?_eq_some_iff.1 evn).2]
 have hvtb:vt<4294967296:=by
  have:=V7.out.sm.get (n+1) (by omega);rw [(List.getElem?_eq_some_iff.1 evt).2] at this;exact this
 have hvnb:vn<4294967296:=by
  have:=V7.out.sm.get n (by omega);rw [(List.getElem?_eq_some_iff.1 evn).2] at this;exact this
 have hvt31:2147483648<=vt:=by
  have:=HTT.out;rw [hn,show n+2-1=n+1 from by omega,evt] at this;have e:=Option.some.inj this;omega
 have EVT:=ab evt;have EVN:=ab evn;have HN:=ab hn;have D0:=ab (cQ.start (w:=w) (wr:=w7) (gu:=gu) (gq:=gq) (vs:=vs) (al:=al) (N:=xs.length+2) (A:=ak xs*2^s) U1.out.sm (by omega) U3.out (norm_lt xs s WA.out.sm hs32) tt (by omega) (by omega) HTT.out (by omega) U7.out Q7.out G7.out);have hnx:n+2<=xs.length:=by omega
 rw [hn];rw [hn] at hcv;clear hv Hv evt evn hn vl1 vl2 htb HTT HT hn1 hn2 ht2 HS VL hub hcu hal ualen U1 U3 U7 Q7 G7 hl2 hy hne1 hne2 hca hca' hcb hcb' HLE;clear VB;go_wp2;go_quiet (fail)
 go_wp2;simp only [Int.natCast_add,Int.cast_ofNat_Int,Nat.add_sub_add_right];go_loopw [18] (fun jv wr=>∃ z:Int,-1<=z/\z+n+2<=xs.length+1/\jv=.int .i64 z/\Hid (VC vb voff vs wr)/\Hid (∃ us qs,cQ w wr gu gq vs (xs.length+2) (ak xs*2^s) (z+1).toNat us qs)) (fun jv _=>(intOf jv+1).toNat)
 case atStart=>exact ⟨(xs.length:Int)+2-(n+2)-1,by omega,by omega,rfl,HV.out.drewN _,_,_,by
  rw [show ((xs.length:Int)+2-(n+2)-1+1).toNat=xs.length+2-vs.length from by rw [HN.out];omega];exact D0.out.drewN _⟩
 case round =>
  obtain ⟨z,hz1,hz2,rfl,HVC,HD⟩:=hrel;by_cases h0:z<0
  ·obtain ⟨us,qs,hD⟩:=HD.out;rw [show (z+1).toNat=0 from by omega] at hD;obtain ⟨i1,i2,i3,i4,i5,i6,i7,i8,i9⟩:=hD;rw [List.replicate_zero,List.nil_append] at i6;simp only [List.take_zero,List.drop_zero,Nat.pow_zero,Nat.one_mul,ak,Nat.zero_add] at i8 i9;have ql:qs.length=xs.length-n:=by have:=HN.out;omega
   have wq:=i6.ws i4 (by unfold maxLen;omega);have wu:=i5.ws i3 (by unfold maxLen;omega);rw [ql] at wq;rw [i1] at wu;have WQ:=ab wq;have WU:=ab wu;have QL:=ab ql;have I1:=ab i1;have I8:=ab i8;have I9:=ab i9;have I7:=ab i7;clear i1 i2 i3 i4 i5 i6 i7 i8 i9 ql wq wu HD HVC;go_wp2_with fail;refine (dX _ qs _ WQ.out).mono ?_;rintro e w8 ⟨q',rfl,rfl,n1',n2'⟩;go_wp2_with fail;refine (yE _ us _ WU.out).mono ?_;rintro e w8 ⟨u',rfl,rfl,n3',n4'⟩;have tl:=aY us;rw [I1.out] at tl;have N3:=ab n3';have N1:=ab n1';have N2:=ab n2';have TL:=ab tl;clear n1' n2' n3' n4' tl;go_wp2_with fail;refine (CL _ (aN us) s _ N3.out hs32 (by have:=TL.out;omega)).mono ?_;rintro e w9 ⟨r',rfl,n5',g9,f9⟩;have N5:=ab n5';have G9:=ab g9;have F9:=ab f9;clear n5' g9 f9;go_wp2;go_ret2
   obtain ⟨m1,m2⟩:=xP (ak xs) (ak ys) (2^s) (ak qs) (ak us) (Nat.two_pow_pos s) (by rw [<- V3.out];exact I8.out) (by rw [<- V3.out];exact I9.out);refine ⟨q',r',rfl,?_,?_,aa I7.out G9.out,?_,?_⟩
   ·rw [<- m1];exact (N1.out.keep0 G9.out).mono (by rw [QL.out];omega)
   ·have h5:=N5.out;rw [eN,m2] at h5;exact h5.mono TL.out
   ·intro k hk;rw [N2.out] at hk;simp [az] at hk;omega
   ·intro k hk;have h1:=F9.out k hk;have h2:=I7.out.size;omega
  ·obtain ⟨j,rfl⟩:∃ j:Nat,z=j:=⟨z.toNat,by omega⟩;obtain ⟨us,qs,hD⟩:=HD.out;rw [show ((j:Int)+1).toNat=j+1 from by omega] at hD;have HDD:=ab hD;clear hD HD;go_upto_block 1 with fail
   refine uT _ _ w wr gu gq vb voff cv (xs.length+2) (xs.length-n) (ak xs*2^s) j n vt vn vs us qs HDD.out HVC (ab V7.out.sm) HN EVT EVN hvt31 hvtb hvnb hgu hgq hqu hvbu (by omega) (by omega) (by omega) (by omega) hcv (by omega) _ _ _ _ _ _ _ _ _ _ _ _ _ _ _ _ _ _ _ _ _ _ _ _ _ _ _ _ _ _ _ _ _ _ _ _ _ _ _ _ _ _ _ _ _ _ _ _ _ _ _ _ _ _ _ _ _ _ _ _ _ _ _ _ _ _ _ _ _ _ _ _ _ _ _ _ _ _ _ _ _ _ _ _ _ _ _ _ _ _ _ _ _ _ _ _ _ _ _ _ _ _ _ _ _ _ _ _ _ _ _ _ _ _ _ _ _ _ _ _ _ _ _ _ _ _ _ _ _ _ _ _ _ _ _ _ _ _ _ _ _ _ _ _ _ _ _ _ _ _ _ _ _ _ _ _ _ _ _ _ _ _ _ _ _ _ _ _ _ _ _ _ _ _ _ _ _ _ _ _ _ _ _ _ _ _ _ _ _ _ _ _ _ _ _ _ _ _ _ _ _ _ _ _ _ _ _ _ _ _ _ _ _ _ _ _ _ _ _ _ _ _ _ _ _ _ _ _ _ _ _ _ _ _ _ _ _ _ _ _ _ _ _ _ _ _ _ _ _ _ _ _ _ _ _ _ _ _ _ _ _ _ _ _ _ _ (ab ?_);intro wr' us2 qs2 v19 v20 v21 v22 v23 v24 v25 v26 v27 v113 v114 v115 v116 v117 v118 v119 v120 v121 v122 v123 v124 v125 v126 v127 v128 v129 v130 v131 v132 v133 v134 v135 v136 v137 v138 v139 v140 v141 v142 v143 v144 v145 v146 v147 v148 v149 v150 v151 v152 v153 v154 v155 v156 v157 v158 v159 v160 v161 v162 v163 v164 v165 v166 v167 v168 v169 v170 v171 v172 v173 v174 v175 v176 v177 v178 v179 v180 v181 v182 v183 v184 v185 v186 v187 v188 v189 v190 v191 v192 v193 v194 v195 v196 v197 v198 v199 v200 v201 v202 v203 v204 v205 v206 v207 v208 v209 v210 v211 v212 v213 v214 v215 v216 v217 v218 v219 v220 v221 v222 v223 v224 v225 v226 v227 v228 v229 v230 v231 v232 v233 v234 v235 v236 v237 v238 v239 v240 v241 v242 v243 v244 v245 v246 v247 v248 v249 v250 v251 v252 v253 v254 v255 v256 v257 v258 v259 v260 v261 v262 v263 v264 v265 v266 hD2 hV2
   have HD2:=ab hD2;have HV2:=ab hV2;clear hD2 hV2 HDD HVC;go_wp2;go_roundw
   case rel =>
    (repeat apply Exists.intro)
    exact ⟨⟨(j:Int)-1,by omega,by omega,by go_num,HV2.out,us2,qs2,by rw [show ((j:Int)-1+1).toNat=j from by omega];exact HD2.out⟩,rfl⟩
   case measure=>simp [intOf]
theorem Bo (va vb:Value) (xs ys:List Nat) (w:World) (ha:Ws w va xs) (hb:Ws w vb ys) (tx:Tr xs) (ty:Tr ys) (hlt:ak xs<ak ys) (hl:xs.length<=9000000000000) :
  Calls Tryz.prog 94 #[va,vb] w fun e w'=>∃ q r,e=.returned (.tuple #[q,r])/\aU w' q 0 0/\aU w' r (ak xs) xs.length/\w.grownBy w' none/\bA w q/\bA w r:=by
 obtain ⟨ao,ca,ea,hca,hca',Ha⟩:=ha.open;obtain ⟨bo,cb,eb,hcb,hcb',Hb⟩:=hb.open;unfold maxLen at hca' hcb';have hy:0<ys.length:=by
  rcases Nat.eq_zero_or_pos ys.length with h | h
  ·have:ys=[]:=List.eq_nil_of_length_eq_zero h;rw [this] at hlt;simp [ak] at hlt
  ·exact h
 have hne1:(((ys.length:Nat):Int)==0)=false:=beq_eq_false_iff_ne.2 (by omega);have WA:=ab ha;have WB:=ab hb;have TX:=ab tx;have TY:=ab ty;have HLT:=ab hlt;subst ea eb;clear Ha Hb ha hb tx ty hlt;go_enter Tryz.func94,Tryz.ntmps94
 go_wp2_with fail;refine (oP _ _ xs ys _ WA.out WB.out TX.out TY.out).mono ?_;rintro e w1 ⟨rfl,q1,rfl⟩;have hord:=sC HLT.out;generalize iG (ak xs) (ak ys)=o1 at hord ⊢;go_wp2_with fail;refine (yF _ xs _ (WA.out.keep0 (ar (ae _ _) _)) (by omega)).mono ?_;rintro e w2 ⟨r',rfl,k1,k2,k3⟩;have K1:=ab k1;have K2:=ab k2;have K3:=ab k3;clear k1 k2 k3;go_wp2;go_ret2
 exact ⟨_,r',rfl,⟨[],Ws.nil _,rfl,rfl,by simp⟩,⟨xs,K1.out,TX.out,rfl,Nat.le_refl _⟩,aa (ar (ae _ _) _) K2.out,fun k hk=>by simp [az] at hk,K3.out⟩
theorem div_one (va vb:Value) (xs:List Nat) (y:Nat) (w:World) (ha:Ws w va xs) (hb:Ws w vb [y]) (tx:Tr xs) (ty:Tr [y]) (hx:2<xs.length) (hle:y<=ak xs) (hl:xs.length<=9000000000000) :
  Calls Tryz.prog 94 #[va,vb] w fun e w'=>∃ q r,e=.returned (.tuple #[q,r])/\aU w' q (ak xs / y) xs.length/\aU w' r (ak xs % y) 1/\w.grownBy w' none/\bA w q/\bA w r:=by
 obtain ⟨ao,ca,ea,hca,hca',Ha⟩:=ha.open;obtain ⟨bo,cb,eb,hcb,hcb',Hb⟩:=hb.open;unfold maxLen at hca' hcb';obtain ⟨b,off,rfl,hbb,hcell⟩:=Hb 0 (by simp);simp only [Nat.add_zero,List.getElem_cons_zero] at hcell;have hy0:0<y:=by have:=ty.pos;simp only [ak] at this;omega
 have hyb:y<4294967296:=hb.sm y (by simp);have WA:=ab ha;have WB:=ab hb;have TX:=ab tx;have TY:=ab ty;have HLE:Hid (ak [y]<=ak xs):=by simp only [ak];exact hle
 subst ea eb;clear Ha Hb ha hb tx ty hle;go_enter Tryz.func94,Tryz.ntmps94
 go_wp2_with fail;refine (oP _ _ xs [y] _ WA.out WB.out TX.out TY.out).mono ?_;rintro e w1 ⟨rfl,q1,rfl⟩;have hord:=mU HLE.out;generalize iG (ak xs) (ak [y])=o1 at hord ⊢;go_wp2_with fail;refine (CV _ xs y _ (WA.out.keep0 (ar (ae _ _) _)) hy0 hyb (by omega)).mono ?_;rintro e w2 ⟨q',r,rfl,hr,k1,k2,k3⟩;have hrb:r<4294967296:=by rw [hr];exact Nat.lt_trans (Nat.mod_lt _ hy0) hyb
 have K1:=ab k1;have K2:=ab k2;have K3:=ab k3;have HR:=ab hr;clear k1 k2 k3 hr;go_wp2_with fail;have ha1:ch (w2.alloc (Obj.cells #[Value.int IntKind.u32 (r:Nat)] 140)) w2.heap.size [r]:=by
  unfold ch;show (w2.heap.push _)[w2.heap.size]? = _
  rw [Array.getElem?_push_size];rfl
 have hw:=ha1.ws (Sm.cons hrb Sm.nil) (by unfold maxLen;simp);clear ha1;refine (dX _ _ _ hw).mono ?_;rintro e w3 ⟨r',rfl,rfl,h1,h2⟩;have H1:=ab h1;have H2:=ab h2;clear hw h1 h2;go_wp2;go_ret2
 refine ⟨q',r',rfl,K1.out.keep0 (ag (ae _ _) _),?_,ag (aa (ar (ae _ _) _) K2.out) _,K3.out,?_⟩
 ·have h:=H1.out;simp only [ak,Nat.mul_zero,Nat.add_zero,List.length_singleton] at h;rw [<- HR.out];exact h
 ·intro k hk;rw [H2.out] at hk;have:=K2.out.size;simp [az] at hk;simp at this;omega
theorem rG {w wa wb:World} {v1 v2:Value} {k m1 m2:Nat} (g1:(w.drewN k).grownBy wa none) (n1:aU wa v1 m1 2) (f1:bA (w.drewN k) v1) (g2:wa.grownBy wb none) (n2:aU wb v2 m2 2) (f2:bA wa v2) :
  aU wb v1 m1 2/\aU wb v2 m2 2/\w.grownBy wb none/\bA w v1/\bA w v2 :=
 ⟨n1.keep0 g2,n2,aa (aa (ar (ae _ _) _) g1) g2,f1,fun k hk=>Nat.le_trans g1.size (f2 k hk)⟩
theorem zt (va vb:Value) (xs ys:List Nat) (w:World) (ha:Ws w va xs) (hb:Ws w vb ys) (tx:Tr xs) (ty:Tr ys) (hx:xs.length<=2) (hy:0<ys.length) (hy2:ys.length<=2) (hle:ak ys<=ak xs) :
  Calls Tryz.prog 94 #[va,vb] w fun e w'=>∃ q r,e=.returned (.tuple #[q,r])/\aU w' q (ak xs / ak ys) 2/\aU w' r (ak xs % ak ys) 2/\w.grownBy w' none/\bA w q/\bA w r:=by
 obtain ⟨ao,ca,ea,hca,hca',Ha⟩:=ha.open;obtain ⟨bo,cb,eb,hcb,hcb',Hb⟩:=hb.open;unfold maxLen at hca' hcb';have hne1:(((ys.length:Nat):Int)==0)=false:=beq_eq_false_iff_ne.2 (by omega);have hyp:0<ak ys:=by
  have:=iZ ty (by intro e;rw [e] at hy;simp at hy);have p3:0<4294967296^(ys.length-1):=Nat.pow_pos (by decide);omega
 have hxb:ak xs<18446744073709551616:=by
  have h1:=bD ha.sm;have h2:4294967296^xs.length<=4294967296^2:=Nat.pow_le_pow_right (by decide) hx;omega
 have WA:=ab ha;have WB:=ab hb;have TX:=ab tx;have TY:=ab ty;have HLE:=ab hle;subst ea eb;clear Ha Hb ha hb tx ty;go_enter Tryz.func94,Tryz.ntmps94
 go_wp2_with fail;refine (oP _ _ xs ys _ WA.out WB.out TX.out TY.out).mono ?_;rintro e w1 ⟨rfl,q1,rfl⟩;have hord:=mU HLE.out;generalize iG (ak xs) (ak ys)=o1 at hord ⊢;go_wp2_with fail;refine (iV _ xs _ (WA.out.keep0 (ar (ae _ _) _)) hx).mono ?_;rintro e w2 ⟨rfl,rfl⟩;go_wp2_with fail;refine (iV _ ys _ (WB.out.keep0 (ar (ae _ _) _)) hy2).mono ?_;rintro e w3 ⟨rfl,rfl⟩;generalize hX:ak xs=X at *;generalize hY:ak ys=Y at *;have HX:=ab hX;have HY:=ab hY;clear hX hY;have hqb:X / Y<18446744073709551616:=Nat.lt_of_le_of_lt (Nat.div_le_self _ _) hxb;have hrb:X % Y<18446744073709551616:=Nat.lt_of_le_of_lt (Nat.mod_le _ _) hxb;obtain ⟨qq,eq⟩:∃ x,x=X / Y:=⟨_,rfl⟩;obtain ⟨rr,er⟩:∃ x,x=X % Y:=⟨_,rfl⟩;have hq1:((X:Int) / (Y:Int))=(qq:Int):=by rw [eq,Int.natCast_ediv]
 have hq2:((X:Int) % (Y:Int))=(rr:Int):=by rw [er,Int.natCast_emod]
 have hq3:((X:Int).tmod (Y:Int))=(rr:Int):=by rw [er,Int.tmod_eq_emod_of_nonneg (by omega),Int.natCast_emod]
 rw [<- eq] at hqb;rw [<- er] at hrb;have hw1:IntKind.u64.wrap (qq:Int)=(qq:Int):=IntWalk.u64_in _ ⟨by omega,by omega⟩;have hw2:IntKind.u64.wrap (rr:Int)=(rr:Int):=IntWalk.u64_in _ ⟨by omega,by omega⟩;have EQ:=ab eq;have ER:=ab er;clear eq er;go_wp2;go_region_with (first | (go_at_call_of 64 (Value.int .u64 (qq:Int));refine (eO _ _ (by omega) (by omega)).mono ?_;rintro e w5 ⟨vq,rfl,a1,a2,a3⟩) | (go_at_call_of 64 (Value.int .u64 (rr:Int));refine (eO _ _ (by omega) (by omega)).mono ?_;rintro e w6 ⟨vr,rfl,b1,b2,b3⟩))
 all_goals go_wp2
 all_goals go_ret2
 all_goals rw [Int.toNat_natCast] at a1 b1
 all_goals rw [EQ.out] at a1
 all_goals rw [ER.out] at b1
 all_goals rw [HX.out,HY.out]
 all_goals first
  | (have h:=rG a2 a1 a3 b2 b1 b3;exact ⟨vq,vr,rfl,h.1,h.2.1,h.2.2.1,h.2.2.2.1,h.2.2.2.2⟩)
  | (have h:=rG b2 b1 b3 a2 a1 a3;exact ⟨vq,vr,rfl,h.2.1,h.1,h.2.2.1,h.2.2.2.2,h.2.2.2.1⟩)
theorem fK (va vb:Value) (m n L M:Nat) (w:World) (ha:aU w va m L) (hb:aU w vb n M) (hn:0<n) (hl:L<=9000000000000) (hm:M<=9000000000000) :
  Calls Tryz.prog 94 #[va,vb] w fun e w'=>∃ q r,e=.returned (.tuple #[q,r])/\aU w' q (m / n) (L+2)/\aU w' r (m % n) (L+2)/\w.grownBy w' none/\bA w q/\bA w r:=by
 obtain ⟨xs,x1,x2,x3,x4⟩:=ha;obtain ⟨ys,y1,y2,y3,y4⟩:=hb;have hy0:0<ys.length:=by
  rcases Nat.eq_zero_or_pos ys.length with h | h
  ·have:ys=[]:=List.eq_nil_of_length_eq_zero h;rw [this] at y3;simp [ak] at y3;omega
  ·exact h
 rcases Nat.lt_or_ge (ak xs) (ak ys) with hlt | hge
 ·refine (Bo va vb xs ys w x1 y1 x2 y2 hlt (by omega)).mono ?_;rintro e w' ⟨q,r,rfl,k1,k2,k3,k4,k5⟩;rw [x3] at k2;rw [x3,y3] at hlt;refine ⟨q,r,rfl,?_,?_,k3,k4,k5⟩
  ·rw [Nat.div_eq_of_lt hlt];exact k1.mono (by omega)
  ·rw [Nat.mod_eq_of_lt hlt];exact k2.mono (by omega)
 ·have hll:ys.length<=xs.length:=by
   rcases Nat.lt_or_ge xs.length ys.length with h | h
   ·have:=cw x1.sm y2 h;omega
   ·exact h
  by_cases h2:xs.length<=2
  ·refine (zt va vb xs ys w x1 y1 x2 y2 h2 hy0 (by omega) hge).mono ?_;rintro e w' ⟨q,r,rfl,k1,k2,k3,k4,k5⟩;rw [x3,y3] at k1 k2;exact ⟨q,r,rfl,k1.mono (by omega),k2.mono (by omega),k3,k4,k5⟩
  ·by_cases h1:ys.length=1
   ·obtain ⟨y,rfl⟩:=List.length_eq_one_iff.1 h1;have hy:y=n:=by rw [<- y3];simp [ak]
    refine (div_one va vb xs y w x1 y1 x2 y2 (by omega) (by simp only [ak] at hge;omega) (by omega)).mono ?_;rintro e w' ⟨q,r,rfl,k1,k2,k3,k4,k5⟩;rw [x3,hy] at k1 k2;exact ⟨q,r,rfl,k1.mono (by omega),k2.mono (by omega),k3,k4,k5⟩
   ·refine (Bp va vb xs ys w x1 y1 x2 y2 (by omega) (by omega) hge (by omega) hll).mono ?_;rintro e w' ⟨q,r,rfl,k1,k2,k3,k4,k5⟩;rw [x3,y3] at k1 k2;exact ⟨q,r,rfl,k1.mono (by omega),k2.mono (by omega),k3,k4,k5⟩
theorem zi (va vb:Value) (xs0 ys0:List Nat) (w:World) (ha:Ws w va xs0) (hb:Ws w vb ys0) (tx0:Tr xs0) (ty0:Tr ys0) (hx0:0<ak xs0) (L:Nat) (hlx:xs0.length<=L) (hly:ys0.length<=L) (hl:L<=8000000000000) :
  Calls Tryz.prog 93 #[va,vb] w fun e w'=>∃ g,e=.returned g/\aU w' g (Nat.gcd (ak xs0) (ak ys0)) (L+2)/\w.grownBy w' none:=by
 obtain ⟨ao,ca,ea,hca,hca',Ha⟩:=ha.open;obtain ⟨bo,cb,eb,hcb,hcb',Hb⟩:=hb.open;obtain ⟨G,hG⟩:∃ G,G=Nat.gcd (ak xs0) (ak ys0):=⟨_,rfl⟩;rw [<- hG];have H0:Hid (∃ xs ys:List Nat,Ws w (.slice ao xs0.length ca) xs/\Ws w (.slice bo ys0.length cb) ys/\Tr xs/\Tr ys/\0<ak xs/\xs.length<=L/\ys.length<=L/\Nat.gcd (ak xs) (ak ys)=G/\w.grownBy w none/\ak ys=ak ys0) :=
  ⟨xs0,ys0,by rw [<- ea];exact ha,by rw [<- eb];exact hb,tx0,ty0,hx0,hlx,hly,hG.symm,ae _ _,rfl⟩
 subst ea eb;clear Ha Hb ha hb tx0 ty0 hx0 hlx hly hG hca hca' hcb hcb';go_enter Tryz.func93,Tryz.ntmps93
 go_wp2;go_loopg [0,1] (ak ys0) (fun k av bv wr=>Hid (∃ xs ys:List Nat,Ws wr av xs/\Ws wr bv ys/\Tr xs/\Tr ys/\0<ak xs/\xs.length<=L/\ys.length<=L/\Nat.gcd (ak xs) (ak ys)=G/\w.grownBy wr none/\ak ys=k))
 case atStart=>exact H0.out
 case round =>
  obtain ⟨xs,ys,h1,h2,h3,h4,h5,h6,h7,h8,h9,h10⟩:=hrel.out;obtain ⟨ao',ca',rfl,hca,hca',_⟩:=h1.open;obtain ⟨bo',cb',rfl,hcb,hcb',_⟩:=h2.open;unfold maxLen at hca' hcb';have H1:=ab h1;have H2:=ab h2;have H3:=ab h3;have H4:=ab h4;have H5:=ab h5;have H8:=ab h8;have H9:=ab h9;have H10:=ab h10;clear h1 h2 h3 h4 h5 h8 h9 h10 hrel H0;by_cases hy:2<ys.length
  ·have hq0:0<ak ys:=by
    have:=iZ H4.out (by intro e;rw [e] at hy;simp at hy);have p3:0<4294967296^(ys.length-1):=Nat.pow_pos (by decide);omega
   have HQ0:=ab hq0;clear hq0;go_wp2_with fail;refine (fK _ _ (ak xs) (ak ys) L L _ ⟨xs,H1.out,H3.out,rfl,h6⟩ ⟨ys,H2.out,H4.out,rfl,h7⟩ HQ0.out (by omega) (by omega)).mono ?_;rintro e w2 ⟨q,r,rfl,k1,⟨rs,r1,r2,r3,r4⟩,k3,k4,k5⟩;have R1:=ab r1;have R2:=ab r2;have R3:=ab r3;have K3:=ab k3;clear k1 r1 r2 r3 r4 k3 k4 k5;go_wp2;have hm:=Nat.mod_lt (ak xs) HQ0.out;go_roundg (ak rs)
   case measure=>rw [R3.out,<- H10.out];exact hm
   case rel=>exact ⟨ys,rs,H2.out.keep0 K3.out,R1.out,H4.out,R2.out,HQ0.out,h7,Nat.le_trans (lA R1.out.sm R2.out H2.out.sm (by rw [R3.out];omega)) h7,by rw [R3.out,Nat.gcd_comm,<- Nat.gcd_rec,Nat.gcd_comm];exact H8.out,aa H9.out K3.out,rfl⟩
  ·by_cases hy1:ys.length=0
   ·have hb1:(((ys.length:Nat):Int)==0)=true:=beq_iff_eq.2 (by omega);have e0:ys=[]:=List.eq_nil_of_length_eq_zero hy1;have E0:=ab e0;clear e0 hy1;go_wp2;go_ret;refine ⟨_,rfl,⟨xs,H1.out,H3.out,?_,by omega⟩,H9.out⟩;have:=H8.out;rw [E0.out] at this;simp only [ak,Nat.gcd_zero_right] at this;exact this
   ·have hb1:(((ys.length:Nat):Int)==0)=false:=beq_eq_false_iff_ne.2 (by omega);have hle2:ys.length<=2:=by omega
    by_cases hx:2<xs.length
    ·have hq0:0<ak ys:=by
      have:=iZ H4.out (by intro e;rw [e] at hy1;simp at hy1);have p3:0<4294967296^(ys.length-1):=Nat.pow_pos (by decide);omega
     have HQ0:=ab hq0;clear hq0 hy1 hy;go_wp2_with fail;refine (fK _ _ (ak xs) (ak ys) L L _ ⟨xs,H1.out,H3.out,rfl,h6⟩ ⟨ys,H2.out,H4.out,rfl,h7⟩ HQ0.out (by omega) (by omega)).mono ?_;rintro e w2 ⟨q,r,rfl,k1,⟨rs,r1,r2,r3,r4⟩,k3,k4,k5⟩;obtain ⟨ro',cr',rfl,hcr,hcr',_⟩:=r1.open;have hm:=Nat.mod_lt (ak xs) HQ0.out;have rl:rs.length<=2:=Nat.le_trans (lA r1.sm r2 H2.out.sm (by rw [r3];omega)) hle2;have R1:=ab r1;have T2':=ab (H2.out.keep0 k3);have TG:Hid (Nat.gcd (ak ys) (ak rs)=G):=by rw [r3,Nat.gcd_comm,<- Nat.gcd_rec,Nat.gcd_comm];exact H8.out
     have T4':=ab (aa H9.out k3);clear k1 r1 r2 r3 r4 k3 k4 k5 hm hcr' H1 H2 H3 H4 H5 H8 H9 H10 HQ0;have bx:ak ys<18446744073709551616:=oz T2'.out.sm hle2;have by':ak rs<18446744073709551616:=oz R1.out.sm rl
     go_wp2_with fail;refine (iV _ ys _ T2'.out hle2).mono ?_;rintro e w3 ⟨rfl,rfl⟩;go_wp2_with fail;refine (iV _ rs _ R1.out rl).mono ?_;rintro e w3 ⟨rfl,rfl⟩;have T3':=TG;generalize ak ys=X at bx T3' ⊢;generalize ak rs=Y at by' T3' ⊢
     go_wp2;go_loopw [9,10] (fun xv yv wv=>∃ x y q:Nat,x<18446744073709551616/\y<18446744073709551616/\xv=.int .u64 x/\yv=.int .u64 y/\wv=w3.drewN q/\Hid (Nat.gcd x y=G)) (fun _ yv _=>(intOf yv).toNat)
     case atStart=>exact ⟨X,Y,0,bx,by',rfl,rfl,rfl,T3'.out⟩
     case round =>
      clear bx by' T3'
      obtain ⟨x,y,q,hxb,hyb,rfl,rfl,rfl,HG⟩:=hrel;by_cases hy0:y=0
      ·have HY0:=ab hy0;have hyle:y<=0:=by omega
       clear hy0;go_wp2_with fail;refine (eO _ _ (by omega) (by omega)).mono ?_;rintro e w5 ⟨g,rfl,a1,a2,a3⟩;have A1:=ab a1;have A2:=ab a2;clear a1 a2 a3;go_wp2;go_ret;refine ⟨g,rfl,?_,aa T4'.out (aa (ar (ae _ _) _) A2.out)⟩;have h:=A1.out;have hg:=HG.out;rw [HY0.out,Nat.gcd_zero_right] at hg;rw [Int.toNat_natCast,hg] at h;exact h.mono (by omega)
      ·have hy1:1<=y:=by omega
       obtain ⟨zz,ez⟩:∃ z,z=x % y:=⟨_,rfl⟩;have hz1:((x:Int) % (y:Int))=(zz:Int):=by rw [ez,Int.natCast_emod]
       have hz2:((x:Int).tmod (y:Int))=(zz:Int):=by rw [ez,Int.tmod_eq_emod_of_nonneg (by omega),Int.natCast_emod]
       have hzb:zz<y:=by rw [ez];exact Nat.mod_lt _ (by omega)
       have EZ:=ab ez;clear ez hy0;go_wp2;go_quiet (fail)
       go_wp2;go_roundw
       case rel=>exact ⟨y,zz,_,hyb,by omega,rfl,by first | rfl | rw [hz1] | rw [hz2],by first | rfl | (simp only [World.drewN_drewN];rfl),by rw [EZ.out,Nat.gcd_comm,<- Nat.gcd_rec,Nat.gcd_comm];exact HG.out⟩
       case measure=>simp [intOf];omega
    ·have hxl:xs.length<=2:=by omega
     clear hy1 hy;have bx:ak xs<18446744073709551616:=oz H1.out.sm hxl;have by':ak ys<18446744073709551616:=oz H2.out.sm hle2
     go_wp2_with fail;refine (iV _ xs _ H1.out hxl).mono ?_;rintro e w3 ⟨rfl,rfl⟩;go_wp2_with fail;refine (iV _ ys _ H2.out hle2).mono ?_;rintro e w3 ⟨rfl,rfl⟩;have T3':=H8;generalize ak xs=X at bx T3' ⊢;generalize ak ys=Y at by' T3' ⊢
     go_wp2;go_loopw [9,10] (fun xv yv wv=>∃ x y q:Nat,x<18446744073709551616/\y<18446744073709551616/\xv=.int .u64 x/\yv=.int .u64 y/\wv=w3.drewN q/\Hid (Nat.gcd x y=G)) (fun _ yv _=>(intOf yv).toNat)
     case atStart=>exact ⟨X,Y,0,bx,by',rfl,rfl,rfl,T3'.out⟩
     case round =>
      clear bx by' T3'
      obtain ⟨x,y,q,hxb,hyb,rfl,rfl,rfl,HG⟩:=hrel;by_cases hy0:y=0
      ·have HY0:=ab hy0;have hyle:y<=0:=by omega
       clear hy0;go_wp2_with fail;refine (eO _ _ (by omega) (by omega)).mono ?_;rintro e w5 ⟨g,rfl,a1,a2,a3⟩;have A1:=ab a1;have A2:=ab a2;clear a1 a2 a3;go_wp2;go_ret;refine ⟨g,rfl,?_,aa H9.out (aa (ar (ae _ _) _) A2.out)⟩;have h:=A1.out;have hg:=HG.out;rw [HY0.out,Nat.gcd_zero_right] at hg;rw [Int.toNat_natCast,hg] at h;exact h.mono (by omega)
      ·have hy1:1<=y:=by omega
       obtain ⟨zz,ez⟩:∃ z,z=x % y:=⟨_,rfl⟩;have hz1:((x:Int) % (y:Int))=(zz:Int):=by rw [ez,Int.natCast_emod]
       have hz2:((x:Int).tmod (y:Int))=(zz:Int):=by rw [ez,Int.tmod_eq_emod_of_nonneg (by omega),Int.natCast_emod]
       have hzb:zz<y:=by rw [ez];exact Nat.mod_lt _ (by omega)
       have EZ:=ab ez;clear ez hy0;go_wp2;go_quiet (fail)
       go_wp2;go_roundw
       case rel=>exact ⟨y,zz,_,hyb,by omega,rfl,by first | rfl | rw [hz1] | rw [hz2],by first | rfl | (simp only [World.drewN_drewN];rfl),by rw [EZ.out,Nat.gcd_comm,<- Nat.gcd_rec,Nat.gcd_comm];exact HG.out⟩
       case measure=>simp [intOf];omega
theorem jf (va vb:Value) (m n L M:Nat) (w:World) (ha:aU w va m L) (hb:aU w vb n M) (hm:0<m) (hl:L<=8000000000000) (hl2:M<=8000000000000) :
  Calls Tryz.prog 93 #[va,vb] w fun e w'=>∃ g,e=.returned g/\aU w' g (Nat.gcd m n) (max L M+2)/\w.grownBy w' none:=by
 obtain ⟨xs,x1,x2,x3,x4⟩:=ha;obtain ⟨ys,y1,y2,y3,y4⟩:=hb;rw [<- x3,<- y3];exact zi va vb xs ys w x1 y1 x2 y2 (by omega) (max L M) (by omega) (by omega) (by omega)
end Go.Proofs.YthblidglcppakaaGreatDoor
