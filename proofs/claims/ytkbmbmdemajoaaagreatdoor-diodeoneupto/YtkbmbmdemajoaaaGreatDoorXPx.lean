/- Contracts. -/
import Derived.Test.YtkbmbmdemajoaaaGreatDoorXPw
import Derived.Deep.CutBlock
import Derived.Deep.DeepCutAuto
namespace Go.Proofs.YtkbmbmdemajoaaaGreatDoor
open Go.RowKit
set_option linter.unusedVariables false
set_option linter.unusedSimpArgs false
set_option maxHeartbeats 8000000
set_option maxRecDepth 10000
variable {w w' w1:World} {b off:Nat} {v:Value} {vs us qs:List Nat}
theorem Ad (g v c:Nat) (hg:g<4294967296) (a:v<4294967296) (hc:c<4294967296):(c+g*v) / 4294967296<4294967296:=by
 have:g*v<=4294967295*4294967295:=Nat.mul_le_mul O O;omega
theorem tU (g v c:Nat):(((c:Int)+(g:Int)*(v:Int)) / 4294967296)=(((c+g*v) / 4294967296:Nat):Int):=by
 rw [Int.natCast_ediv,Int.natCast_add,Int.natCast_mul];rfl
theorem Bp (K:Act->World->Prop) (M:Exit->Act->World->Prop) (w0 w:World) (gu gq h a m N G j n g:Nat) (us qs vs:List Nat)
  (hvl:vs.length=n+2) (hul:us.length=N) (hcv:n+2<=m) (hcv2:m<=9223372036854775807) (hg:g<4294967296) (hj:j+n+2<N) (hN:N<=10000000000000) (su:Hid (Sm us)) (sv:Hid (Sm vs))
  (hgu:w0.heap.size<=gu) (hne:gq≠gu) (hvb:h≠gu)
  (h0:Hid (gQ w0 w gu gq us qs vs j g 0 0 0)) (v0:Hid (VC h a vs w))
  (c0 c1 c2 c3 c4 c5 c6 c7 c8 c9 c10 c14 c15 c16 c17 c19 c21 c25 c26 c27 c28 c29 c30 c31 c32 c33 c34 c35 c36 c37 c38 c39 c40 c41 c42 c43 c44 c45 c46 c47 c48 c49 c50 c51 c52 c53 c54 c55 c56 c57 c58 c59 c60 c61 c62 c63 c64 c65 c66 c67 c68 c69 c70 c71 c72 c73 c74 c75 c76 c77 c78 c79 c80 c81 c82 c83 c84 c85 c86 c87 c88 c89 c90 c91 c92 c93 c94 c95 c96 c97 c98 c99 c100 c101 c102 c103 c104 c105 c106 c107 c108 c109 c110 c111 c112 c113 c114 c115 c116 c117 c118 c119 c120 c121 c122 c123 c124 c125 c126 c127 c128 c129 c130 c131 c132 c133 c134 c135 c136 c137 c138 c139 c140 c141 c142 c143 c144 c145 c146 c147 c148 c149 c150 c151 c152 c153 c154 c155 c156 c157 c158 c159 c160 c161 c162 c163 c164 c165 c166 c167 c168 c169 c170 c171 c172 c173 c174 c175 c176 c177 c178 c179 c180 c181 c182 c183 c184 c185 c186 c187 c188 c189 c190 c191 c192 c193 c194 c195 c196 c197 c198 c199 c200 c201 c202 c203 c204 c205 c206 c207 c208 c209 c210 c211 c212 c213 c214 c215 c216 c217 c218 c219 c220 c221 c222 c223 c224 c225 c226 c227 c228 c229 c230 c231 c232 c233 c234 c235 c236 c237 c238 c239 c240 c241 c242 c243 c244 c245 c246 c247 c248 c249 c250 c251 c252 c253 c254 c255 c256 c257 c258 c259 c260 c261 c262 c263 c264 c265 c266 c267 c268 c269 c270 c271 c272:Value)
  (hK:Hid (∀ (wr:World) (c d:Nat) (cz dz:Int) (u24 u25 u162 u163 u164 u165 u166 u167 u168 u169 u170 u171 u172 u173 u174 u175 u176 u177 u178 u179 u180 u181 u182 u183 u184 u185 u186 u187 u188 u189 u190 u191 u192 u193 u194 u195 u196 u197 u198 u199:Value),cz=(c:Int)->dz=(d:Int)->c<4294967296->d<=1->gQ w0 wr gu gq us qs vs j g (n+2) c d->VC h a vs wr->K ⟨#[c0,c1,c2,c3,c4,c5,c6,c7,c8,c9,c10,.slice (some ⟨h,a,none⟩) (n+2) m,.slice (some ⟨gu,0,none⟩) N G,.int .i64 (n+2),c14,c15,c16,c17,.int .i64 j,c19,.int .u64 g,c21,.int .u64 cz,.int .u64 dz,u24,u25,c26,c27,c28,c29,c30,c31,c32,c33,c34,c35,c36,c37,c38,c39,c40,c41,c42,c43,c44,c45,c46,c47,c48,c49,c50,c51,c52,c53,c54,c55,c56,c57,c58,c59,c60,c61,c62,c63,c64,c65,c66,c67,c68,c69,c70,c71,c72,c73,c74,c75,c76,c77,c78,c79,c80,c81,c82,c83,c84,c85,c86,c87,c88,c89,c90,c91,c92,c93,c94,c95,c96,c97,c98,c99,c100,c101,c102,c103,c104,c105,c106,c107,c108,c109,c110,c111,c112,c113,c114,c115,c116,c117,c118,c119,c120,c121,c122,c123,c124,c125,c126,c127,c128,c129,c130,c131,c132,c133,c134,c135,c136,c137,c138,c139,c140,c141,c142,c143,c144,c145,c146,c147,c148,c149,c150,c151,c152,c153,c154,c155,c156,c157,c158,c159,c160,c161,u162,u163,u164,u165,u166,u167,u168,u169,u170,u171,u172,u173,u174,u175,u176,u177,u178,u179,u180,u181,u182,u183,u184,u185,u186,u187,u188,u189,u190,u191,u192,u193,u194,u195,u196,u197,u198,u199,c200,c201,c202,c203,c204,c205,c206,c207,c208,c209,c210,c211,c212,c213,c214,c215,c216,c217,c218,c219,c220,c221,c222,c223,c224,c225,c226,c227,c228,c229,c230,c231,c232,c233,c234,c235,c236,c237,c238,c239,c240,c241,c242,c243,c244,c245,c246,c247,c248,c249,c250,c251,c252,c253,c254,c255,c256,c257,c258,c259,c260,c261,c262,c263,c264,c265,c266,c267,c268,c269,c270,c271,c272],[]⟩ wr)) :
  Code.wp Tryz.prog ((Tryz.f171.body.bind (cT 4)).getD .skip) (Exit.then K M) ⟨#[c0,c1,c2,c3,c4,c5,c6,c7,c8,c9,c10,.slice (some ⟨h,a,none⟩) (n+2) m,.slice (some ⟨gu,0,none⟩) N G,.int .i64 (n+2),c14,c15,c16,c17,.int .i64 j,c19,.int .u64 g,c21,.int .u64 0,.int .u64 0,.int .i64 0,c25,c26,c27,c28,c29,c30,c31,c32,c33,c34,c35,c36,c37,c38,c39,c40,c41,c42,c43,c44,c45,c46,c47,c48,c49,c50,c51,c52,c53,c54,c55,c56,c57,c58,c59,c60,c61,c62,c63,c64,c65,c66,c67,c68,c69,c70,c71,c72,c73,c74,c75,c76,c77,c78,c79,c80,c81,c82,c83,c84,c85,c86,c87,c88,c89,c90,c91,c92,c93,c94,c95,c96,c97,c98,c99,c100,c101,c102,c103,c104,c105,c106,c107,c108,c109,c110,c111,c112,c113,c114,c115,c116,c117,c118,c119,c120,c121,c122,c123,c124,c125,c126,c127,c128,c129,c130,c131,c132,c133,c134,c135,c136,c137,c138,c139,c140,c141,c142,c143,c144,c145,c146,c147,c148,c149,c150,c151,c152,c153,c154,c155,c156,c157,c158,c159,c160,c161,c162,c163,c164,c165,c166,c167,c168,c169,c170,c171,c172,c173,c174,c175,c176,c177,c178,c179,c180,c181,c182,c183,c184,c185,c186,c187,c188,c189,c190,c191,c192,c193,c194,c195,c196,c197,c198,c199,c200,c201,c202,c203,c204,c205,c206,c207,c208,c209,c210,c211,c212,c213,c214,c215,c216,c217,c218,c219,c220,c221,c222,c223,c224,c225,c226,c227,c228,c229,c230,c231,c232,c233,c234,c235,c236,c237,c238,c239,c240,c241,c242,c243,c244,c245,c246,c247,c248,c249,c250,c251,c252,c253,c254,c255,c256,c257,c258,c259,c260,c261,c262,c263,c264,c265,c266,c267,c268,c269,c270,c271,c272],[]⟩ w:=by
 conv=>arg 2;whnf
 have z:=ab hvl;have A:=ab hul;clear hvl hul;go_wp2;go_loopw [22,23,24] (fun m dv iv wr=>∃ k c d:Nat,k<=n+2/\c<4294967296/\d<=1/\m=.int .u64 c/\dv=.int .u64 d/\iv=.int .i64 k/\Hid (gQ w0 wr gu gq us qs vs j g k c d)/\Hid (VC h a vs wr)) (fun _ _ iv _=>n+2-(intOf iv).toNat)
 case atStart=>exact ⟨0,0,0,Nat.zero_le _,O,O,rfl,rfl,rfl,h0,v0⟩
 case round =>
 clear h0 v0;obtain ⟨k,c,d,hk,hc,hd,rfl,rfl,rfl,o,C⟩:=hrel;by_cases hlt:k<n+2
 ·have i:k<vs.length:=by rw [z];exact hlt
  have f:j+k<us.length:=by rw [A];omega
  obtain ⟨v,p⟩:=eX (vs[k]);obtain ⟨u,q⟩:=eX (us[j+k]);have B:=sv.out.get k i;have H:=su.out.get (j+k) f;rw [<- p] at B;rw [<- q] at H;have c1:wr.cell? ⟨h,a+k,none⟩=some (.int .u32 (v:Nat)):=by rw [C k i,p]
  have c2:wr.cell? ⟨gu,k+j,none⟩=some (.int .u32 (u:Nat)):=by
   obtain ⟨l,D,U,E,V,W,X⟩:=o.out;have P:=jJ us l j k D O;rw [Nat.add_comm,E.cell (j+k) (by rw [P];exact f),(zY (mD us l j k D f)).2,q]
  have c3:wr.frozen? ⟨gu,k+j,none⟩=false:=by
   obtain ⟨l,D,U,E,V,W,X⟩:=o.out;exact E.free _
  have hp:(g:Int)*(v:Int)<=18446744065119617025:=lA g v hg B;have Q:0<=(g:Int)*(v:Int):=Int.mul_nonneg O O;obtain ⟨T,x,e,Y,t2,r,F,s,t,y⟩:=vP u ((c+g*v) % 4294967296) d H (Nat.mod_lt _ zD) hd;have I:((((c+g*v) % 4294967296:Nat)):Int)=((c:Int)+(g:Int)*(v:Int)) % 4294967296:=by rw [Int.natCast_emod,Int.natCast_add,Int.natCast_mul];rfl
  rw [I] at Y;have R:=ab (And.intro r (And.intro F (And.intro s (And.intro t y))));have J:=ab p;have S:=ab q;clear r F s t y I p q;go_wp2;go_roundw
  case rel =>
   obtain ⟨r,F,s,t,y⟩:=R.out;refine ⟨k+1,(c+g*v) / 4294967296,e,O,Ad g v c hg B hc,s,by rw [tU],by rw [<- r,Int.natCast_ediv];rfl,zN,?_,?_⟩
   ·have L:=gQ.step o i f hgu hne x e ((T:Int) % 4294967296) O t (by rw [<- J,<- S];exact y);rw [<- J,Nat.add_comm j k] at L;exact L
   ·exact C.set _ _ _ hvb
  case measure=>simp [intOf];omega
 ·obtain rfl:k=n+2:=O
  go_wp2;exact hK wr c d _ _ _ _ _ _ _ _ _ _ _ _ _ _ _ _ _ _ _ _ _ _ _ _ _ _ _ _ _ _ _ _ _ _ _ _ _ _ _ _ _ _  rfl rfl hc hd o C
theorem wP (K:Act->World->Prop) (A:Exit->Act->World->Prop) (w0 w:World) (gu gq e a h N t j n:Nat) (us qs vs:List Nat)
  (hvl:vs.length=n+2) (hul:us.length=N) (hcv:n+2<=h) (hcv2:h<=9223372036854775807) (hj:j+n+2<N) (hN:N<=10000000000000) (su:Hid (Sm us)) (sv:Hid (Sm vs))
  (hgu:w0.heap.size<=gu) (hne:gq≠gu) (hvb:e≠gu)
  (h0:Hid (da w0 w gu gq us qs vs j 0 0)) (v0:Hid (VC e a vs w))
  (c0 c1 c2 c3 c4 c5 c6 c7 c8 c9 c10 c14 c15 c16 c17 c19 c20 c21 c23 c24 c25 c26 c28 c29 c30 c31 c32 c33 c34 c35 c36 c37 c38 c39 c40 c41 c42 c43 c44 c45 c46 c47 c48 c49 c50 c51 c52 c53 c54 c55 c56 c57 c58 c59 c60 c61 c62 c63 c64 c65 c66 c67 c68 c69 c70 c71 c72 c73 c74 c75 c76 c77 c78 c79 c80 c81 c82 c83 c84 c85 c86 c87 c88 c89 c90 c91 c92 c93 c94 c95 c96 c97 c98 c99 c100 c101 c102 c103 c104 c105 c106 c107 c108 c109 c110 c111 c112 c113 c114 c115 c116 c117 c118 c119 c120 c121 c122 c123 c124 c125 c126 c127 c128 c129 c130 c131 c132 c133 c134 c135 c136 c137 c138 c139 c140 c141 c142 c143 c144 c145 c146 c147 c148 c149 c150 c151 c152 c153 c154 c155 c156 c157 c158 c159 c160 c161 c162 c163 c164 c165 c166 c167 c168 c169 c170 c171 c172 c173 c174 c175 c176 c177 c178 c179 c180 c181 c182 c183 c184 c185 c186 c187 c188 c189 c190 c191 c192 c193 c194 c195 c196 c197 c198 c199 c200 c201 c202 c203 c204 c205 c206 c207 c208 c209 c210 c211 c212 c213 c214 c215 c216 c217 c218 c219 c220 c221 c222 c223 c224 c225 c226 c227 c228 c229 c230 c231 c232 c233 c234 c235 c236 c237 c238 c239 c240 c241 c242 c243 c244 c245 c246 c247 c248 c249 c250 c251 c252 c253 c254 c255 c256 c257 c258 c259 c260 c261 c262 c263 c264 c265 c266 c267 c268 c269 c270 c271 c272:Value)
  (hK:Hid (∀ (wr:World) (c:Nat) (cz:Int) (u27 u223 u224 u225 u226 u227 u228 u229 u230 u231 u232 u233 u234 u235 u236 u237 u238 u239 u240 u241 u242 u243 u244 u245 u246 u247 u248 u249 u250 u251:Value),cz=(c:Int)->c<=1->da w0 wr gu gq us qs vs j (n+2) c->VC e a vs wr->K ⟨#[c0,c1,c2,c3,c4,c5,c6,c7,c8,c9,c10,.slice (some ⟨e,a,none⟩) (n+2) h,.slice (some ⟨gu,0,none⟩) N t,.int .i64 (n+2),c14,c15,c16,c17,.int .i64 j,c19,c20,c21,.int .u64 cz,c23,c24,c25,c26,u27,c28,c29,c30,c31,c32,c33,c34,c35,c36,c37,c38,c39,c40,c41,c42,c43,c44,c45,c46,c47,c48,c49,c50,c51,c52,c53,c54,c55,c56,c57,c58,c59,c60,c61,c62,c63,c64,c65,c66,c67,c68,c69,c70,c71,c72,c73,c74,c75,c76,c77,c78,c79,c80,c81,c82,c83,c84,c85,c86,c87,c88,c89,c90,c91,c92,c93,c94,c95,c96,c97,c98,c99,c100,c101,c102,c103,c104,c105,c106,c107,c108,c109,c110,c111,c112,c113,c114,c115,c116,c117,c118,c119,c120,c121,c122,c123,c124,c125,c126,c127,c128,c129,c130,c131,c132,c133,c134,c135,c136,c137,c138,c139,c140,c141,c142,c143,c144,c145,c146,c147,c148,c149,c150,c151,c152,c153,c154,c155,c156,c157,c158,c159,c160,c161,c162,c163,c164,c165,c166,c167,c168,c169,c170,c171,c172,c173,c174,c175,c176,c177,c178,c179,c180,c181,c182,c183,c184,c185,c186,c187,c188,c189,c190,c191,c192,c193,c194,c195,c196,c197,c198,c199,c200,c201,c202,c203,c204,c205,c206,c207,c208,c209,c210,c211,c212,c213,c214,c215,c216,c217,c218,c219,c220,c221,c222,u223,u224,u225,u226,u227,u228,u229,u230,u231,u232,u233,u234,u235,u236,u237,u238,u239,u240,u241,u242,u243,u244,u245,u246,u247,u248,u249,u250,u251,c252,c253,c254,c255,c256,c257,c258,c259,c260,c261,c262,c263,c264,c265,c266,c267,c268,c269,c270,c271,c272],[]⟩ wr)) :
  Code.wp Tryz.prog ((Tryz.f171.body.bind (cT 6)).getD .skip) (Exit.then K A) ⟨#[c0,c1,c2,c3,c4,c5,c6,c7,c8,c9,c10,.slice (some ⟨e,a,none⟩) (n+2) h,.slice (some ⟨gu,0,none⟩) N t,.int .i64 (n+2),c14,c15,c16,c17,.int .i64 j,c19,c20,c21,.int .u64 0,c23,c24,c25,c26,.int .i64 0,c28,c29,c30,c31,c32,c33,c34,c35,c36,c37,c38,c39,c40,c41,c42,c43,c44,c45,c46,c47,c48,c49,c50,c51,c52,c53,c54,c55,c56,c57,c58,c59,c60,c61,c62,c63,c64,c65,c66,c67,c68,c69,c70,c71,c72,c73,c74,c75,c76,c77,c78,c79,c80,c81,c82,c83,c84,c85,c86,c87,c88,c89,c90,c91,c92,c93,c94,c95,c96,c97,c98,c99,c100,c101,c102,c103,c104,c105,c106,c107,c108,c109,c110,c111,c112,c113,c114,c115,c116,c117,c118,c119,c120,c121,c122,c123,c124,c125,c126,c127,c128,c129,c130,c131,c132,c133,c134,c135,c136,c137,c138,c139,c140,c141,c142,c143,c144,c145,c146,c147,c148,c149,c150,c151,c152,c153,c154,c155,c156,c157,c158,c159,c160,c161,c162,c163,c164,c165,c166,c167,c168,c169,c170,c171,c172,c173,c174,c175,c176,c177,c178,c179,c180,c181,c182,c183,c184,c185,c186,c187,c188,c189,c190,c191,c192,c193,c194,c195,c196,c197,c198,c199,c200,c201,c202,c203,c204,c205,c206,c207,c208,c209,c210,c211,c212,c213,c214,c215,c216,c217,c218,c219,c220,c221,c222,c223,c224,c225,c226,c227,c228,c229,c230,c231,c232,c233,c234,c235,c236,c237,c238,c239,c240,c241,c242,c243,c244,c245,c246,c247,c248,c249,c250,c251,c252,c253,c254,c255,c256,c257,c258,c259,c260,c261,c262,c263,c264,c265,c266,c267,c268,c269,c270,c271,c272],[]⟩ w:=by
 conv=>arg 2;whnf
 have o:=ab hvl;have p:=ab hul;clear hvl hul;go_wp2;go_loopw [22,27] (fun h iv wr=>∃ k c:Nat,k<=n+2/\c<=1/\h=.int .u64 c/\iv=.int .i64 k/\Hid (da w0 wr gu gq us qs vs j k c)/\Hid (VC e a vs wr)) (fun _ iv _=>n+2-(intOf iv).toNat)
 case atStart=>exact ⟨0,0,Nat.zero_le _,O,rfl,rfl,h0,v0⟩
 case round =>
 clear h0 v0;obtain ⟨k,c,I,hc,rfl,rfl,i,q⟩:=hrel;by_cases hlt:k<n+2
 ·have f:k<vs.length:=by rw [o];exact hlt
  have d:j+k<us.length:=by rw [p];omega
  obtain ⟨v,l⟩:=eX (vs[k]);obtain ⟨u,m⟩:=eX (us[j+k]);have B:=sv.out.get k f;have C:=su.out.get (j+k) d;rw [<- l] at B;rw [<- m] at C;have c1:wr.cell? ⟨e,a+k,none⟩=some (.int .u32 (v:Nat)):=by rw [q k f,l]
  have c2:wr.cell? ⟨gu,k+j,none⟩=some (.int .u32 (u:Nat)):=by
   obtain ⟨g,r,E,s,F,G,H⟩:=i.out;have D:=jJ us g j k r O;rw [Nat.add_comm,s.cell (j+k) (by rw [D];exact d),(zY (mD us g j k r d)).2,m]
  have c3:wr.frozen? ⟨gu,k+j,none⟩=false:=by
   obtain ⟨g,r,E,s,F,G,H⟩:=i.out;exact s.free _
  have x:=ab l;have y:=ab m;clear l m;go_wp2;go_quiet (fail)
  go_wp2;go_roundw
  case rel =>
   refine ⟨k+1,(c+u+v) / 4294967296,O,O,zN,zN,?_,?_⟩
   ·have z:=da.step i f d hgu hne (((c:Int)+((u:Int)+(v:Int))) % 4294967296) (by rw [<- x,<- y];omega);rw [<- x,<- y,Nat.add_comm j k] at z;exact da.drewN z _
   ·exact VC.drewN (q.set _ _ _ hvb) _
  case measure=>simp [intOf];omega
 ·obtain rfl:k=n+2:=O
  go_wp2;exact hK wr c _ _ _ _ _ _ _ _ _ _ _ _ _ _ _ _ _ _ _ _ _ _ _ _ _ _ _ _ _ _ _  rfl hc i q
theorem zQ (us W D:List Nat) (j:Nat) (a:j<=us.length):(us.take j++W++D).take j=us.take j:=by
 have c:(us.take j).length=j:=by rw [List.length_take];omega
 rw [List.append_assoc,List.take_append_of_le_length O,zT O]
theorem oE (us W D:List Nat) (j:Nat) (a:j<=us.length):(us.take j++W++D).drop j=W++D:=by
 have c:(us.take j).length=j:=by rw [List.length_take];omega
 rw [List.append_assoc,List.drop_append_of_le_length O,List.drop_of_length_le O,List.nil_append]
theorem EN (us W D:List Nat) (j k:Nat) (a:j<=us.length) (c:W.length=k):(us.take j++W++D).drop (j+k)=D:=by
 rw [<- List.drop_drop,oE us W D j a,List.drop_append_of_le_length O,List.drop_of_length_le O,List.nil_append]
theorem wl_get (us W D:List Nat) (j i:Nat) (a:j<=us.length) (hi:i<W.length):(us.take j++W++D)[j+i]? = W[i]?:=by
 rw [<- List.getElem?_drop,oE us W D j a,List.getElem?_append_left hi]
theorem cK.done {wr a:World} {gu gq:Nat} {N A j:Nat} {W:List Nat} (h:cK w wr gu gq vs N A (j+1) us qs) (sv:Sm vs) (e:j+vs.length<us.length) (f:ai (us.drop j) / ai vs<4294967296)
  (hW:W.length=vs.length+1) (sW:Sm W) (vW:ai W=ai (us.drop j) % ai vs) (a1:bW a gu (us.take j++W++us.drop (j+(vs.length+1)))) (a2:bW a gq (List.replicate (j+1) 0++qs)) (hg:w.grownBy a none)
  (hgq:w.heap.size<=gq) (hne:gq≠gu) (z:Int) (hz:z=((ai (us.drop j) / ai vs:Nat):Int)) :
  cK w (a.setCell ⟨gq,j,none⟩ (.int .u32 z)) gu gq vs N A j (us.take j++W++us.drop (j+(vs.length+1))) ((ai (us.drop j) / ai vs) :: qs):=by
 have g:=h;obtain ⟨k,l,d,m,n,o,p,i,q⟩:=g;have c:=(mE sv d e i).2.2;refine cK.next h f (by simp [hW];omega) (zQ _ _ _ _ O) ?_ (((d.take _).append sW).append (d.drop _)) a1 a2 hg hgq hne z hz;rw [oE _ _ _ _ O,bN,c,vW];simp
theorem wQ {wr:World} {gu gq:Nat} {j:Nat} (a:bW wr gu us) (c:bW wr gq qs) (hg:w.grownBy wr none):da w wr gu gq us qs vs j 0 0 :=
 ⟨[],rfl,Sm.nil,by rw [List.append_nil,Nat.add_zero,List.take_append_drop];exact a,c,hg,by simp [ai]⟩
theorem Bq {wr:World} {gu gq:Nat} {j g:Nat} (a:bW wr gu us) (c:bW wr gq qs) (hg:w.grownBy wr none):gQ w wr gu gq us qs vs j g 0 0 0 :=
 ⟨[],rfl,Sm.nil,by rw [List.append_nil,Nat.add_zero,List.take_append_drop];exact a,c,hg,by simp [ai]⟩
theorem vB (K:Act->World->Prop) (Q':Exit->Act->World->Prop) (w wr:World) (gu gq F f X N M A j n k vn:Nat) (vs us qs:List Nat)
  (hD:cK w wr gu gq vs N A (j+1) us qs) (hV:Hid (VC F f vs wr)) (sv:Hid (Sm vs)) (hn:Hid (vs.length=n+2)) (evt:Hid (vs[n+1]? = some k)) (evn:Hid (vs[n]? = some vn)) (hvt31:2147483648<=k) (hvtb:k<4294967296) (hvnb:vn<4294967296)
  (hgu:w.heap.size<=gu) (hgq:w.heap.size<=gq) (hqu:gu<gq) (hvbu:F<gu) (hjN:j+n+2<N) (hjM:j<M) (hN:N<=10000000000000) (hM:M<=N) (hcv:n+2<=X) (hcv2:X<=9223372036854775807)
  (c0 c1 c2 c3 c4 c5 c6 c7 c8 c9 c10 c14 c19 c20 c21 c22 c23 c24 c25 c26 c27 c28 c29 c30 c31 c32 c33 c34 c35 c36 c37 c38 c39 c40 c41 c42 c43 c44 c45 c46 c47 c48 c49 c50 c51 c52 c53 c54 c55 c56 c57 c58 c59 c60 c61 c62 c63 c64 c65 c66 c67 c68 c69 c70 c71 c72 c73 c74 c75 c76 c77 c78 c79 c80 c81 c82 c83 c84 c85 c86 c87 c88 c89 c90 c91 c92 c93 c94 c95 c96 c97 c98 c99 c100 c101 c102 c103 c104 c105 c106 c107 c108 c109 c110 c111 c112 c113 c114 c115 c116 c117 c118 c119 c120 c121 c122 c123 c124 c125 c126 c127 c128 c129 c130 c131 c132 c133 c134 c135 c136 c137 c138 c139 c140 c141 c142 c143 c144 c145 c146 c147 c148 c149 c150 c151 c152 c153 c154 c155 c156 c157 c158 c159 c160 c161 c162 c163 c164 c165 c166 c167 c168 c169 c170 c171 c172 c173 c174 c175 c176 c177 c178 c179 c180 c181 c182 c183 c184 c185 c186 c187 c188 c189 c190 c191 c192 c193 c194 c195 c196 c197 c198 c199 c200 c201 c202 c203 c204 c205 c206 c207 c208 c209 c210 c211 c212 c213 c214 c215 c216 c217 c218 c219 c220 c221 c222 c223 c224 c225 c226 c227 c228 c229 c230 c231 c232 c233 c234 c235 c236 c237 c238 c239 c240 c241 c242 c243 c244 c245 c246 c247 c248 c249 c250 c251 c252 c253 c254 c255 c256 c257 c258 c259 c260 c261 c262 c263 c264 c265 c266 c267 c268 c269 c270 c271 c272:Value)
  (hK:Hid (∀ (wr':World) (us2 qs2:List Nat) (u19 u20 u21 u22 u23 u24 u25 u26 u27 u113 u114 u115 u116 u117 u118 u119 u120 u121 u122 u123 u124 u125 u126 u127 u128 u129 u130 u131 u132 u133 u134 u135 u136 u137 u138 u139 u140 u141 u142 u143 u144 u145 u146 u147 u148 u149 u150 u151 u152 u153 u154 u155 u156 u157 u158 u159 u160 u161 u162 u163 u164 u165 u166 u167 u168 u169 u170 u171 u172 u173 u174 u175 u176 u177 u178 u179 u180 u181 u182 u183 u184 u185 u186 u187 u188 u189 u190 u191 u192 u193 u194 u195 u196 u197 u198 u199 u200 u201 u202 u203 u204 u205 u206 u207 u208 u209 u210 u211 u212 u213 u214 u215 u216 u217 u218 u219 u220 u221 u222 u223 u224 u225 u226 u227 u228 u229 u230 u231 u232 u233 u234 u235 u236 u237 u238 u239 u240 u241 u242 u243 u244 u245 u246 u247 u248 u249 u250 u251 u252 u253 u254 u255 u256 u257 u258 u259 u260 u261 u262 u263 u264 u265 u266:Value),cK w wr' gu gq vs N A j us2 qs2->VC F f vs wr'->K ⟨#[c0,c1,c2,c3,c4,c5,c6,c7,c8,c9,c10,.slice (some ⟨F,f,none⟩) (n+2) X,.slice (some ⟨gu,0,none⟩) N N,.int .i64 (n+2),c14,.slice (some ⟨gq,0,none⟩) M M,.int .u64 k,.int .u64 vn,.int .i64 j,u19,u20,u21,u22,u23,u24,u25,u26,u27,c28,c29,c30,c31,c32,c33,c34,c35,c36,c37,c38,c39,c40,c41,c42,c43,c44,c45,c46,c47,c48,c49,c50,c51,c52,c53,c54,c55,c56,c57,c58,c59,c60,c61,c62,c63,c64,c65,c66,c67,c68,c69,c70,c71,c72,c73,c74,c75,c76,c77,c78,c79,c80,c81,c82,c83,c84,c85,c86,c87,c88,c89,c90,c91,c92,c93,c94,c95,c96,c97,c98,c99,c100,c101,c102,c103,c104,c105,c106,c107,c108,c109,c110,c111,c112,u113,u114,u115,u116,u117,u118,u119,u120,u121,u122,u123,u124,u125,u126,u127,u128,u129,u130,u131,u132,u133,u134,u135,u136,u137,u138,u139,u140,u141,u142,u143,u144,u145,u146,u147,u148,u149,u150,u151,u152,u153,u154,u155,u156,u157,u158,u159,u160,u161,u162,u163,u164,u165,u166,u167,u168,u169,u170,u171,u172,u173,u174,u175,u176,u177,u178,u179,u180,u181,u182,u183,u184,u185,u186,u187,u188,u189,u190,u191,u192,u193,u194,u195,u196,u197,u198,u199,u200,u201,u202,u203,u204,u205,u206,u207,u208,u209,u210,u211,u212,u213,u214,u215,u216,u217,u218,u219,u220,u221,u222,u223,u224,u225,u226,u227,u228,u229,u230,u231,u232,u233,u234,u235,u236,u237,u238,u239,u240,u241,u242,u243,u244,u245,u246,u247,u248,u249,u250,u251,u252,u253,u254,u255,u256,u257,u258,u259,u260,u261,u262,u263,u264,u265,u266,c267,c268,c269,c270,c271,c272],[]⟩ wr')) :
  Code.wp Tryz.prog ((Tryz.f171.body.bind (cT 1)).getD .skip) (Exit.then K Q') ⟨#[c0,c1,c2,c3,c4,c5,c6,c7,c8,c9,c10,.slice (some ⟨F,f,none⟩) (n+2) X,.slice (some ⟨gu,0,none⟩) N N,.int .i64 (n+2),c14,.slice (some ⟨gq,0,none⟩) M M,.int .u64 k,.int .u64 vn,.int .i64 j,c19,c20,c21,c22,c23,c24,c25,c26,c27,c28,c29,c30,c31,c32,c33,c34,c35,c36,c37,c38,c39,c40,c41,c42,c43,c44,c45,c46,c47,c48,c49,c50,c51,c52,c53,c54,c55,c56,c57,c58,c59,c60,c61,c62,c63,c64,c65,c66,c67,c68,c69,c70,c71,c72,c73,c74,c75,c76,c77,c78,c79,c80,c81,c82,c83,c84,c85,c86,c87,c88,c89,c90,c91,c92,c93,c94,c95,c96,c97,c98,c99,c100,c101,c102,c103,c104,c105,c106,c107,c108,c109,c110,c111,c112,c113,c114,c115,c116,c117,c118,c119,c120,c121,c122,c123,c124,c125,c126,c127,c128,c129,c130,c131,c132,c133,c134,c135,c136,c137,c138,c139,c140,c141,c142,c143,c144,c145,c146,c147,c148,c149,c150,c151,c152,c153,c154,c155,c156,c157,c158,c159,c160,c161,c162,c163,c164,c165,c166,c167,c168,c169,c170,c171,c172,c173,c174,c175,c176,c177,c178,c179,c180,c181,c182,c183,c184,c185,c186,c187,c188,c189,c190,c191,c192,c193,c194,c195,c196,c197,c198,c199,c200,c201,c202,c203,c204,c205,c206,c207,c208,c209,c210,c211,c212,c213,c214,c215,c216,c217,c218,c219,c220,c221,c222,c223,c224,c225,c226,c227,c228,c229,c230,c231,c232,c233,c234,c235,c236,c237,c238,c239,c240,c241,c242,c243,c244,c245,c246,c247,c248,c249,c250,c251,c252,c253,c254,c255,c256,c257,c258,c259,c260,c261,c262,c263,c264,c265,c266,c267,c268,c269,c270,c271,c272],[]⟩ wr:=by
 have ID:=ab hD;obtain ⟨i1,i2,i3,i4,i5,i6,i7,i8,i9⟩:=hD;obtain ⟨D,o⟩:∃ x,us[j+(n+2)]? = some x:=⟨_,zX O⟩;obtain ⟨p,r⟩:∃ x,us[j+(n+1)]? = some x:=⟨_,zX O⟩;obtain ⟨uc,s⟩:∃ x,us[j+n]? = some x:=⟨_,zX O⟩;have hC:wr.cell? ⟨gu,j+(n+2),none⟩=some (.int .u32 (D:Nat)):=by rw [i5.cell _ O,(zY o).2]
 have hE:wr.cell? ⟨gu,j+(n+1),none⟩=some (.int .u32 (p:Nat)):=by rw [i5.cell _ O,(zY r).2]
 have hf:wr.cell? ⟨gu,j+(n+2)-2,none⟩=some (.int .u32 (uc:Nat)):=by rw [show j+(n+2)-2=j+n from O,i5.cell _ O,(zY s).2]
 have CC:=ab hf;have hj:D<4294967296:=by have:=i3.get (j+(n+2)) O;rw [(zY o).2] at this;exact this
 have hF:p<4294967296:=by have:=i3.get (j+(n+1)) O;rw [(zY r).2] at this;exact this
 have hG:uc<4294967296:=by have:=i3.get (j+n) O;rw [(zY s).2] at this;exact this
 have hk:=jB D p hj hF;obtain ⟨hh,S⟩:=eX (D*4294967296+p);rw [<- S] at hk;have hm:hh<18446744073709551616:=O
 have KK:=ab (cK.kd ID sv hn k vn D p uc evt evn o r s hvt31);rw [<- S] at KK;have G:hh / k<18446744073709551616:=Nat.lt_of_le_of_lt (Nat.div_le_self _ _) hm;have H:hh % k<4294967296:=Nat.lt_trans (Nat.mod_lt _ O) hvtb;obtain ⟨g0,t⟩:=eX (hh / k);obtain ⟨r0,u⟩:=eX (hh % k);have hH:((hh:Int) / (k:Int))=(g0:Int):=by rw [t,Int.natCast_ediv]
 have ho:Hid (((hh:Int) % (k:Int))=(r0:Int)):=by rw [u,Int.natCast_emod];rfl
 rw [<- t] at G;rw [<- u] at H;have E0:Hid (g0*k+r0=hh/\ai (us.drop j) / ai vs<=g0):=by
  rw [t,u,Nat.mul_comm];exact ⟨Nat.div_add_mod hh k,KK.init⟩
 have GB:=ab G;have RB:=ab H;have UL:=ab i1;have SU:=ab i3;have AU:=ab i5;have AQ:=ab i6;have GR:=ab i7;have hp:=ab o;have y:j+vs.length<us.length:=by rw [hn];omega
 have q:=ab y;clear i1 i2 i3 i4 i5 i6 i7 i8 i9 o r s S t u hf H y;conv=>arg 2;whnf
 go_wp2;go_quiet (fail)
 go_wp2;go_quiet (fail)
 go_upto_block 2 with fail
 rw [ho];refine um _ _ _ gu N N j n (ai (us.drop j)) (ai vs) _ k vn _ hh uc _ g0 r0 KK hvtb hvnb hG ?cell O hN E0 GB RB _ _ _ _ _ _ _ _ _ _ _ _ _ _ _ _ _ _ _ _ _ _ _ _ _ _ _ _ _ _ _ _ _ _ _ _ _ _ _ _ _ _ _ _ _ _ _ _ _ _ _ _ _ _ _ _ _ _ _ _ _ _ _ _ _ _ _ _ _ _ _ _ _ _ _ _ _ _ _ _ _ _ _ _ _ _ _ _ _ _ _ _ _ _ _ _ _ _ _ _ _ _ _ _ _ _ _ _ _ _ _ _ _ _ _ _ _ _ _ _ _ _ _ _ _ _ _ _ _ _ _ _ _ _ _ _ _ _ _ _ _ _ _ _ _ _ _ _ _ _ _ _ _ _ _ _ _ _ _ _ _ _ _ _ _ _ _ _ _ _ _ _ _ _ _ _ _ _ _ _ _ _ _ _ _ _ _ _ _ _ _ _ _ _ _ _ _ _ _ _ _ _ _ _ _ _ _ _ _ _ _ _ _ _ _ _ _ _ _ _ _ _ _ _ _ _ _ _ _ _ _ _ _ _ _ _ _ _ _ _ _ _ _ _ _ _ _ _ _ _ _ _ _ _ _ _ _ _ _ _ _ _ _ _ _ _ (ab ?_)
 case cell=>exact CC
 clear E0 GB RB G hH ho CC hC hE hk hm evt evn hvt31 hvtb hvnb;intro g gz v21 v136 v137 v138 v139 v140 v141 v142 v143 v144 v145 v146 v147 v148 v149 v150 v151 v152 v153 v154 v155 v156 v157 v158 v159 v160 v161 hX hg z B;subst hX;have G1:=ab z;have G2:=ab B;clear z B;go_upto_block 4 with fail
 refine Bp _ _ w _ gu gq F f X N N j n g us (List.replicate (j+1) 0++qs) vs hn UL hcv hcv2 hg O hN SU sv hgu O O (ab ?s0) (ab ?v0) _ _ _ _ _ _ _ _ _ _ _ _ _ _ _ _ _ _ _ _ _ _ _ _ _ _ _ _ _ _ _ _ _ _ _ _ _ _ _ _ _ _ _ _ _ _ _ _ _ _ _ _ _ _ _ _ _ _ _ _ _ _ _ _ _ _ _ _ _ _ _ _ _ _ _ _ _ _ _ _ _ _ _ _ _ _ _ _ _ _ _ _ _ _ _ _ _ _ _ _ _ _ _ _ _ _ _ _ _ _ _ _ _ _ _ _ _ _ _ _ _ _ _ _ _ _ _ _ _ _ _ _ _ _ _ _ _ _ _ _ _ _ _ _ _ _ _ _ _ _ _ _ _ _ _ _ _ _ _ _ _ _ _ _ _ _ _ _ _ _ _ _ _ _ _ _ _ _ _ _ _ _ _ _ _ _ _ _ _ _ _ _ _ _ _ _ _ _ _ _ _ _ _ _ _ _ _ _ _ _ _ _ _ _ _ _ _ _ _ _ _ _ _ _ _ _ _ _ _ _ _ _ _ _ _ _ _ _ _ _ _ _ _ _ _ _ _ _ _ _ _ _ _ _ _ _ _ _ _ _ _ _ _ _ _ (ab ?_)
 case s0=>exact Bq AU AQ (aj GR _)
 case v0=>exact hV.drewN _
 clear AU AQ GR hV;intro Q c d cz dz v24 v25 v162 v163 v164 v165 v166 v167 v168 v169 v170 v171 v172 v173 v174 v175 v176 v177 v178 v179 v180 v181 v182 v183 v184 v185 v186 v187 v188 v189 v190 v191 v192 v193 v194 v195 v196 v197 v198 v199 hY ka hc hd hS hz;subst hY ka;have hI:Q.cell? ⟨gu,j+(n+2),none⟩=some (.int .u32 (D:Nat)):=by
  obtain ⟨l,U,h2,V,h4,h5,h6⟩:=hS;have i:j+(n+2)<us.length:=by rw [UL];omega
  have hl:=jJ us l j (n+2) U O;rw [V.cell (j+(n+2)) (by rw [hl];exact i),(zY (mD us l j (n+2) U i)).2,(zY hp).2]
 have hJ:Q.frozen? ⟨gu,j+(n+2),none⟩=false:=by
  obtain ⟨l,U,h2,V,h4,h5,h6⟩:=hS;exact V.free _
 obtain ⟨T,x,e,t1,t2,t3,t4,t5,t6,t7⟩:=vP D c d hj hc hd;have i:j+vs.length<us.length:=q.out;have ST:=ab hS;rw [<- hn] at hS;obtain ⟨W,w1,w2,w3,w4,w5,w6,w7⟩:=gQ.top hS i hgu O x e ((T:Int) % 4294967296) O t6 (by
  have:us[j+vs.length]=D:=by
   have h:=hp.out;rw [<- hn] at h;exact (zY h).2
  rw [this];exact t7)
 rw [hn] at w3 w4 w5;have hq:=(mE sv SU i (by obtain ⟨_,_,_,_,_,_,_,i8,_⟩:=ID.out;exact i8)).1;rw [hq] at w6;have I:=ab w1;have W2:=ab w2;have W3:=ab w3;have W4:=ab w4;have W5:=ab w5;have W6:=ab w6;have W7:=ab w7;have J:=ab hz;have T3:=ab t3;have hV0:0<ai vs:=KK.out.pos;have L:=ab hV0;have QL:=ab KK.q_lt;clear w1 w2 w3 w4 w5 w6 w7 hz hS t4 t5 t6 t7 hq hV0 i KK;by_cases he:e=0
 ·have hr:(((T:Int) / 9223372036854775808) != 0)=false:=by rw [bne_eq_false_iff_eq];omega
  obtain ⟨d1,d2⟩:=np W6 he G1 L;have D1:=ab d1;have D2:=ab d2;have a2:=W4.out;have cq:∃ v,(Q.setCell ⟨gu,j+(n+2),none⟩ (.int .u32 ((T:Int) % 4294967296))).cell? ⟨gq,j,none⟩=some v:=⟨_,a2.cell j (by simp;omega)⟩;have hL:=a2.free j;obtain ⟨v0,cq⟩:=cq;clear d1 d2 a2 he t3;go_wp2_with fail;refine hK _ _ _ _ _ _ _ _ _ _ _ _ _ _ _ _ _ _ _ _ _ _ _ _ _ _ _ _ _ _ _ _ _ _ _ _ _ _ _ _ _ _ _ _ _ _ _ _ _ _ _ _ _ _ _ _ _ _ _ _ _ _ _ _ _ _ _ _ _ _ _ _ _ _ _ _ _ _ _ _ _ _ _ _ _ _ _ _ _ _ _ _ _ _ _ _ _ _ _ _ _ _ _ _ _ _ _ _ _ _ _ _ _ _ _ _ _ _ _ _ _ _ _ _ _ _ _ _ _ _ _ _ _ _ _ _ _ _ _ _ _ _ _ _ _ _ _ _ _ _ _ _ _ _ _ _ _ _ _ _ _ _ _ _ _ _ (cK.done ID sv q QL I W2 D2 (by rw [hn];exact W3) W4 W5 hgq O (g:Int) (by rw [D1])) ?_;exact VC.set (VC.set J _ _ _ O) _ _ _ O
 ·have hs:e=1:=O
  have hr:(((T:Int) / 9223372036854775808) != 0)=true:=by rw [bne_iff_ne];omega
  have P:=bw W2;rw [I] at P;obtain ⟨d1,d2,d3⟩:=pf W6 hs G1 G2 P L;have D1:=ab d1;have D3:=ab d3;have kb:1<=g:=d2;obtain ⟨a,E⟩:=eX (us.take j++W++us.drop (j+(vs.length+1)));have A3:=W3.out;rw [<- hn,<- E,hn] at A3;have hQ:=UL.out;have l3:a.length=N:=by rw [E];simp [I.out];have:=q.out;omega
  have s3:Sm a:=by rw [E];exact ((SU.take _).append W2).append (SU.drop _)
  have m:j<=us.length:=O
  have g3:a[j+(n+2)]? = some x:=by
   rw [E,wl_get us W _ j (n+2) m (by rw [I,hn];omega),<- hn];exact W7
  have k3:a.take j=us.take j:=by rw [E];exact zQ _ _ _ _ m
  have k4:a.drop j=W++us.drop (j+(vs.length+1)):=by rw [E];exact oE _ _ _ _ m
  have k5:a.drop (j+(vs.length+1))=us.drop (j+(vs.length+1)):=by
   have:=EN us W (us.drop (j+(vs.length+1))) j (vs.length+1) m I;rw [<- E] at this;exact this
  have hR:ai (us.drop j) % ai vs<4294967296^vs.length:=Nat.lt_trans (Nat.mod_lt _ L) (bw sv);have hT:=ab hR;have S3:=ab s3;have L3:=ab l3;have hu:=ab A3;have K3:=ab k3;have K4:=ab k4;have K5:=ab k5;have hv:=ab g3;clear d1 d2 d3 he hs t3 P E A3 hQ l3 s3 m g3 k3 k4 k5 hR G1 G2 W7 W6;go_upto_block 6 with fail
  refine wP _ _ w _ gu gq F f X N N j n a (List.replicate (j+1) 0++qs) vs hn L3 hcv hcv2 O hN S3 sv hgu O O (ab ?b0) (ab ?v1) _ _ _ _ _ _ _ _ _ _ _ _ _ _ _ _ _ _ _ _ _ _ _ _ _ _ _ _ _ _ _ _ _ _ _ _ _ _ _ _ _ _ _ _ _ _ _ _ _ _ _ _ _ _ _ _ _ _ _ _ _ _ _ _ _ _ _ _ _ _ _ _ _ _ _ _ _ _ _ _ _ _ _ _ _ _ _ _ _ _ _ _ _ _ _ _ _ _ _ _ _ _ _ _ _ _ _ _ _ _ _ _ _ _ _ _ _ _ _ _ _ _ _ _ _ _ _ _ _ _ _ _ _ _ _ _ _ _ _ _ _ _ _ _ _ _ _ _ _ _ _ _ _ _ _ _ _ _ _ _ _ _ _ _ _ _ _ _ _ _ _ _ _ _ _ _ _ _ _ _ _ _ _ _ _ _ _ _ _ _ _ _ _ _ _ _ _ _ _ _ _ _ _ _ _ _ _ _ _ _ _ _ _ _ _ _ _ _ _ _ _ _ _ _ _ _ _ _ _ _ _ _ _ _ _ _ _ _ _ _ _ _ _ _ _ _ _ _ _ _ _ _ _ _ _ _ _ _ _ _ _ _ _ _ _ _ _ (ab ?_)
  case b0=>exact wQ hu W4 W5
  case v1=>exact VC.set J _ _ _ O
  intro R c4 kk v27 v223 v224 v225 v226 v227 v228 v229 v230 v231 v232 v233 v234 v235 v236 v237 v238 v239 v240 v241 v242 v243 v244 v245 v246 v247 v248 v249 v250 v251 hA kl hB C;subst hA;clear hu W4 W5 J W3 hI hJ hr t1;have kc:R.cell? ⟨gu,j+(n+2),none⟩=some (.int .u32 (x:Nat)):=by
   obtain ⟨l,U,h2,V,h4,h5,h6⟩:=hB;have i:j+(n+2)<a.length:=by rw [L3];omega
   have hl:=jJ a l j (n+2) U O;rw [V.cell (j+(n+2)) (by rw [hl];exact i),(zY (mD a l j (n+2) U i)).2,(zY hv).2]
  have kf:R.frozen? ⟨gu,j+(n+2),none⟩=false:=by
   obtain ⟨l,U,h2,V,h4,h5,h6⟩:=hB;exact V.free _
  have hw:j+vs.length<a.length:=by rw [L3,hn];omega
  have hx:a[j+vs.length]=x:=by
   have h:=hv.out;rw [<- hn] at h;exact (zY h).2
  have hy:ai ((a.drop j).take (vs.length+1))+ai vs=ai (us.drop j) % ai vs+4294967296^(vs.length+1):=by
   rw [K4,List.take_append_of_le_length (by rw [I];exact zL),zT (by rw [I];exact zL)];exact D3
  rw [<- hn] at hB;obtain ⟨Y,y1,y2,y3,y4,y5,y6⟩:=da.top hB hw hgu O hx hy hT (((x:Int)+(c4:Int)) % 4294967296) O;rw [K3,K5] at y3;have Y1:=ab y1;have Y2:=ab y2;have Y6:=ab y6;have hW:=ab C;rw [hn] at y3 y4 y5;have Y3:=ab y3;have Y4:=ab y4;have Y5:=ab y5;have cq:∃ v,(R.setCell ⟨gu,j+(n+2),none⟩ (.int .u32 (((x:Int)+(c4:Int)) % 4294967296))).cell? ⟨gq,j,none⟩=some v:=⟨_,y4.cell j (by simp;omega)⟩;have hL:=y4.free j;obtain ⟨v0,cq⟩:=cq;clear y1 y2 y3 y4 y5 y6 C hB hx hy;go_wp2_with fail;refine hK _ _ _ _ _ _ _ _ _ _ _ _ _ _ _ _ _ _ _ _ _ _ _ _ _ _ _ _ _ _ _ _ _ _ _ _ _ _ _ _ _ _ _ _ _ _ _ _ _ _ _ _ _ _ _ _ _ _ _ _ _ _ _ _ _ _ _ _ _ _ _ _ _ _ _ _ _ _ _ _ _ _ _ _ _ _ _ _ _ _ _ _ _ _ _ _ _ _ _ _ _ _ _ _ _ _ _ _ _ _ _ _ _ _ _ _ _ _ _ _ _ _ _ _ _ _ _ _ _ _ _ _ _ _ _ _ _ _ _ _ _ _ _ _ _ _ _ _ _ _ _ _ _ _ _ _ _ _ _ _ _ _ _ _ _ _ (cK.done ID sv q QL Y1 Y2 Y6 (by rw [hn];exact Y3) Y4 Y5 hgq O ((g:Int)-1) (by rw [D1];omega)) ?_;exact VC.set (VC.set hW _ _ _ O) _ _ _ O
theorem Cm (va l:Value) (xs ys:List Nat) (w:World) (ha:Ws w va xs) (hb:Ws w l ys) (tx:Tr xs) (ty:Tr ys) (hx:2<xs.length) (hy:1<ys.length) (Q:ai ys<=ai xs) (hl:xs.length<=9000000000000) (hK:ys.length<=xs.length) :
  Calls Tryz.prog 171 #[va,l] w fun e w'=>∃ q r,e=.returned (.tuple #[q,r])/\aQ w' q (ai xs / ai ys) xs.length/\aQ w' r (ai xs % ai ys) (xs.length+2)/\w.grownBy w' none/\bn w q/\bn w r:=by
 obtain ⟨ao,ca,ea,kb,B,Ha⟩:=ha.open;obtain ⟨bo,cb,eb,kc,C,Hb⟩:=hb.open;unfold maxLen at B C;have R:(((ys.length:Nat):Int)==0)=false:=zB O;have S:(((ys.length:Nat):Int)==1)=false:=zB O;have WA:=ab ha;have WB:=ab hb;have TX:=ab tx;have TY:=ab ty;have T:=ab Q;subst ea eb;clear Ha Hb ha hb tx ty Q;go_enter Tryz.func171,Tryz.ntmps171
 go_wp2_with fail;refine (oT _ _ xs ys _ WA WB TX TY).mono ?_;rintro e w1 ⟨rfl,q1,rfl⟩;have U:=mV T;generalize gG (ai xs) (ai ys)=o1 at U ⊢;go_wp2_with fail;obtain ⟨t,I,hq⟩:=yi TY (by intro e;rw [e] at hy;simp at hy);refine (AL _ ys _ (WB.keep0 (aj (ae _ _) _)) O t I hq O).mono ?_;rintro e w2 ⟨⟨n1,rfl,hr,hw,hz,hA⟩,rfl⟩;have HT:=ab (And.intro I (And.intro hz hA));clear I hz hA;go_wp2_with fail;obtain ⟨s,hs⟩:=eX (32-n1);have es:(32-((((ys.length:Nat):Int)-1)*32+(n1:Int)-1) % 32-1)=(s:Int):=O
 have g:s<32:=O
 have HS:=ab hs;simp only [es];clear es hs;refine (yM _ ys s _ (WB.keep0 (aj (ae _ _) _)) g O O).mono ?_;rintro e w3 ⟨vv,rfl,⟨vs,v1,v2,v3,v4⟩,g3,f3⟩;obtain ⟨D,tt,hB,kf⟩:=uP ys vs t n1 s HS hr hw WB.sm O HT.1 HT.2.1 HT.2.2 v1.sm v2 v3;obtain ⟨vo,cv,rfl,hC,hE,L⟩:=v1.open;have HV:=ab L;have VB:=ab v1.blk;have V1:=ab v1;have V2:=ab v2;have V3:=ab v3;have G3:=ab (aa (aj (ae w none) q1) g3);have VL:=ab D;have E:=ab hB;have hL:vs.length<=ys.length:=O
 have hM:ys.length<=vs.length:=O
 clear L v1 v2 v3 v4 g3 f3 D hB;unfold maxLen at hE;go_wp2_with (at_make;refine aC _ rfl _ _ 78 rfl Tryz.underlying78 Tryz.info32 _ _ _ _ (xs.length+2) rfl rfl O O O ?_)
 intro w4 c d;have HU:=ab c;have G4:=ab (aa G3 d);have V4:=ab (V1.keep0 d);have V:w.heap.size<=w3.heap.size:=G3.out.size;generalize w3.heap.size=gu at *;clear c d V1 G3 HV;go_wp2_with fail;refine (yM _ xs s _ (WA.keep0 G4) g O O).mono ?_;rintro e w5 ⟨uv,rfl,⟨al,u1,u2,u3,u4⟩,g5,f5⟩;have F:=ab (HU.keep g5 Z);have G5:=ab (aa G4 g5);have V5:=ab (V4.keep0 g5);have W:0<al.length:=by
  rcases zP al.length with h | h
  ·exfalso
   have e0:al=[]:=List.eq_nil_of_length_eq_zero h;rw [e0] at u3;have p1:=Nat.two_pow_pos s;have p2:=jh TX (by intro e;rw [e] at hx;simp at hx);have p3:0<4294967296^(xs.length-1):=Nat.pow_pos zD;have p4:0<ai xs*2^s:=Nat.mul_pos O p1;rw [<- u3] at p4;simp [ai] at p4
  ·exact h
 have G:=u4;have U1:=ab u1;have U3:=ab u3;obtain ⟨ua,cu,rfl,kk,hF,Hu⟩:=u1.open;obtain ⟨ub,o,rfl,kl,f⟩:=Hu 0 W;clear f;have X:=ab Hu;clear HU G4 V4 g5 u1 u2 u3 u4 Hu f5 hF;have m:=run_copy_row (P:=Tryz.prog) w5 78 78 3 140 gu 0 (xs.length+2) (xs.length+2) ⟨ub,o,none⟩ al.length cu (ak (List.replicate (xs.length+2) 0)) 140 (ak al).toList Tryz.underlying78 zK F
  (by show _=min _ _;simp [ak];omega) (by
   intro j v hj;obtain ⟨ko,kz⟩:=zY hj;have hN:j<al.length:=by simpa [ak] using ko
   obtain ⟨b',o',e',_,J⟩:=X.out j hN;simp only [zI,Addr.mk.injEq,and_true] at e';obtain ⟨rfl,rfl⟩:=e';rw [show (⟨ub,o,none⟩:Addr).add j=⟨ub,o+j,none⟩ from by simp [Addr.add],J,<- kz];simp [ak]) (by simp [ak];omega) (by
   intro u hu;simp only [ak,List.mem_map] at hu;obtain ⟨x,_,rfl⟩:=hu;rfl)
 obtain ⟨c1,c2,c3⟩:=copied (al:=al) F G5 V;generalize (w5.setRow gu ((ak (List.replicate (xs.length+2) 0)).toList.take 0++(ak al).toList++(ak (List.replicate (xs.length+2) 0)).toList.drop (0+(ak al).toList.length)).toArray)=w6 at m c1 c2 c3;generalize (goInt (ak al).toList.length)=gi at m;have V6:=ab (V5.keep c3 (fun k e h=>by cases e;exact absurd (VB _ h) (Nat.lt_irrefl _)));have U6:=ab c1;have G6:=ab c2;clear c1 c2 c3 F G5 V5 X;go_wp2_with (at_make;refine aC _ rfl _ _ 78 rfl Tryz.underlying78 Tryz.info32 _ _ _ _ (xs.length+2-vs.length) rfl rfl O O O ?_)
 intro w7 c d;have Q7:=ab c;have U7:=ab (U6.keep d Z);have G7:=ab (aa G6 d);have V7:=ab (V6.keep0 d);have hQ:w.heap.size<=w6.heap.size:=G6.out.size;have hR:gu<w6.heap.size:=U6.out.lt;generalize w6.heap.size=gq at *;clear c d U6 G6 V6 m;obtain ⟨n,hn⟩:∃ n,vs.length=n+2:=⟨vs.length-2,O⟩;obtain ⟨qc,qf,ev,_,_,L⟩:=V7.out.open;simp only [Value.slice.injEq,true_and] at ev;obtain ⟨rfl,rfl⟩:=ev;obtain ⟨l,a,rfl,qo,f⟩:=L 0 O;clear f;have Y:l<gu:=VB.out l rfl;have hv:∀ i (h:i<vs.length),w7.cell? ⟨l,a+i,none⟩=some (.int .u32 (vs[i]:Nat)):=by
  intro i h;obtain ⟨b',o',e',_,J⟩:=L i h;simp only [zI,Addr.mk.injEq,and_true] at e';obtain ⟨rfl,rfl⟩:=e';exact J
 have HV:Hid (VC l a vs w7):=ab hv;obtain ⟨vt,p⟩:∃ x,vs[n+1]? = some x:=⟨_,zX O⟩;obtain ⟨vn,y⟩:∃ x,vs[n]? = some x:=⟨_,zX O⟩;have kH:w7.cell? ⟨l,a+(n+1),none⟩=some (.int .u32 (vt:Nat)):=by rw [hv (n+1) O,(zY p).2]
 have kN:w7.cell? ⟨l,a+n,none⟩=some (.int .u32 (vn:Nat)):=by rw [hv n O,(zY y).2]
 have he:vt<4294967296:=by
  have:=V7.out.sm.get (n+1) O;rw [(zY p).2] at this;exact this
 have hf:vn<4294967296:=by
  have:=V7.out.sm.get n O;rw [(zY y).2] at this;exact this
 have H:2147483648<=vt:=by
  have:=E.out;rw [hn,show n+2-1=n+1 from O,p] at this;have e:=zJ this;omega
 have hS:=ab p;have hT:=ab y;have HN:=ab hn;have D0:=ab (cK.start (w:=w) (wr:=w7) (gu:=gu) (gq:=gq) (vs:=vs) (al:=al) (N:=xs.length+2) (A:=ai xs*2^s) U1.sm O U3 (norm_lt xs s WA.sm g) tt O O E O U7 Q7 G7);have qa:n+2<=xs.length:=O
 rw [hn];rw [hn] at hC;clear hv L p y hn hL hM kf E HT hr hw hq HS VL kl kk W G U1 U3 U7 Q7 G7 hK hy R S kb B kc C T;clear VB;go_wp2;go_quiet (fail)
 go_wp2;simp only [Int.natCast_add,Int.cast_ofNat_Int,Nat.add_sub_add_right];go_loopw [18] (fun jv wr=>∃ z:Int,-1<=z/\z+n+2<=xs.length+1/\jv=.int .i64 z/\Hid (VC l a vs wr)/\Hid (∃ us qs,cK w wr gu gq vs (xs.length+2) (ai xs*2^s) (z+1).toNat us qs)) (fun jv _=>(intOf jv+1).toNat)
 case atStart=>exact ⟨(xs.length:Int)+2-(n+2)-1,O,O,rfl,HV.drewN _,_,_,by
  rw [show ((xs.length:Int)+2-(n+2)-1+1).toNat=xs.length+2-vs.length from by rw [HN];omega];exact D0.drewN _⟩
 case round =>
  obtain ⟨z,qq,yc,rfl,K,HD⟩:=hrel;by_cases h0:z<0
  ·obtain ⟨us,qs,M⟩:=HD.out;rw [show (z+1).toNat=0 from O] at M;obtain ⟨i1,i2,i3,i4,i5,i6,i7,i8,i9⟩:=M;rw [List.replicate_zero,List.nil_append] at i6;simp only [List.take_zero,List.drop_zero,Nat.pow_zero,Nat.one_mul,ai,Nat.zero_add] at i8 i9;have ql:qs.length=xs.length-n:=by have:=HN.out;omega
   have wq:=i6.ws i4 (by unfold maxLen;omega);have wu:=i5.ws i3 (by unfold maxLen;omega);rw [ql] at wq;rw [i1] at wu;have WQ:=ab wq;have WU:=ab wu;have QL:=ab ql;have I1:=ab i1;have I8:=ab i8;have I9:=ab i9;have I7:=ab i7;clear i1 i2 i3 i4 i5 i6 i7 i8 i9 ql wq wu HD K;go_wp2_with fail;refine (dX _ qs _ WQ).mono ?_;rintro e w8 ⟨q',rfl,rfl,hG,hH⟩;go_wp2_with fail;refine (zH _ us _ WU).mono ?_;rintro e w8 ⟨u',rfl,rfl,hI,kF⟩;have tl:=aU us;rw [I1] at tl;have N3:=ab hI;have N1:=ab hG;have N2:=ab hH;have TL:=ab tl;clear hG hH hI kF tl;go_wp2_with fail;refine (Ec _ (aN us) s _ N3 g (by have:=TL.out;omega)).mono ?_;rintro e w9 ⟨r',rfl,hJ,g9,f9⟩;have N5:=ab hJ;have G9:=ab g9;have F9:=ab f9;clear hJ g9 f9;go_wp2;go_ret2
   obtain ⟨m1,m2⟩:=yz (ai xs) (ai ys) (2^s) (ai qs) (ai us) (Nat.two_pow_pos s) (by rw [<- V3];exact I8) (by rw [<- V3];exact I9);refine ⟨q',r',rfl,?_,?_,aa I7 G9,?_,?_⟩
   ·rw [<- m1];exact (N1.keep0 G9).mono (by rw [QL];omega)
   ·have h5:=N5.out;rw [eW,m2] at h5;exact h5.mono TL
   ·intro k hk;rw [N2] at hk;simp [ar] at hk;omega
   ·intro k hk;have h1:=F9.out k hk;have h2:=I7.out.size;omega
  ·obtain ⟨j,rfl⟩:∃ j:Nat,z=j:=⟨z.toNat,O⟩;obtain ⟨us,qs,M⟩:=HD.out;rw [show ((j:Int)+1).toNat=j+1 from O] at M;have hm:=ab M;clear M HD;go_upto_block 1 with fail
   refine vB _ _ w wr gu gq l a cv (xs.length+2) (xs.length-n) (ai xs*2^s) j n vt vn vs us qs hm K (ab V7.sm) HN hS hT H he hf V hQ hR Y O O O O hC O _ _ _ _ _ _ _ _ _ _ _ _ _ _ _ _ _ _ _ _ _ _ _ _ _ _ _ _ _ _ _ _ _ _ _ _ _ _ _ _ _ _ _ _ _ _ _ _ _ _ _ _ _ _ _ _ _ _ _ _ _ _ _ _ _ _ _ _ _ _ _ _ _ _ _ _ _ _ _ _ _ _ _ _ _ _ _ _ _ _ _ _ _ _ _ _ _ _ _ _ _ _ _ _ _ _ _ _ _ _ _ _ _ _ _ _ _ _ _ _ _ _ _ _ _ _ _ _ _ _ _ _ _ _ _ _ _ _ _ _ _ _ _ _ _ _ _ _ _ _ _ _ _ _ _ _ _ _ _ _ _ _ _ _ _ _ _ _ _ _ _ _ _ _ _ _ _ _ _ _ _ _ _ _ _ _ _ _ _ _ _ _ _ _ _ _ _ _ _ _ _ _ _ _ _ _ _ _ _ _ _ _ _ _ _ _ _ _ _ _ _ _ _ _ _ _ _ _ _ _ _ _ _ _ _ _ _ _ _ _ _ _ _ _ _ _ _ _ _ _ _ _ _ _ _ _ _ _ _ _ _ _ _ _ _ _ (ab ?_);intro qb hY ka v19 v20 v21 v22 v23 v24 v25 v26 v27 v113 v114 v115 v116 v117 v118 v119 v120 v121 v122 v123 v124 v125 v126 v127 v128 v129 v130 v131 v132 v133 v134 v135 v136 v137 v138 v139 v140 v141 v142 v143 v144 v145 v146 v147 v148 v149 v150 v151 v152 v153 v154 v155 v156 v157 v158 v159 v160 v161 v162 v163 v164 v165 v166 v167 v168 v169 v170 v171 v172 v173 v174 v175 v176 v177 v178 v179 v180 v181 v182 v183 v184 v185 v186 v187 v188 v189 v190 v191 v192 v193 v194 v195 v196 v197 v198 v199 v200 v201 v202 v203 v204 v205 v206 v207 v208 v209 v210 v211 v212 v213 v214 v215 v216 v217 v218 v219 v220 v221 v222 v223 v224 v225 v226 v227 v228 v229 v230 v231 v232 v233 v234 v235 v236 v237 v238 v239 v240 v241 v242 v243 v244 v245 v246 v247 v248 v249 v250 v251 v252 v253 v254 v255 v256 v257 v258 v259 v260 v261 v262 v263 v264 v265 v266 ho hp
   have hW:=ab ho;have hX:=ab hp;clear ho hp hm K;go_wp2;go_roundw
   case rel =>
    (repeat apply Exists.intro)
    exact ⟨⟨(j:Int)-1,O,O,zN,hX,hY,ka,by rw [show ((j:Int)-1+1).toNat=j from O];exact hW⟩,rfl⟩
   case measure=>simp [intOf]
theorem Cl (g i:Value) (xs ys:List Nat) (w:World) (ha:Ws w g xs) (hb:Ws w i ys) (j:Tr xs) (l:Tr ys) (hlt:ai xs<ai ys) (J:xs.length<=9000000000000) :
  Calls Tryz.prog 171 #[g,i] w fun e w'=>∃ q r,e=.returned (.tuple #[q,r])/\aQ w' q 0 0/\aQ w' r (ai xs) xs.length/\w.grownBy w' none/\bn w q/\bn w r:=by
 obtain ⟨K,L,B,C,c,D⟩:=ha.open;obtain ⟨bo,M,E,F,d,G⟩:=hb.open;unfold maxLen at c d;have hy:0<ys.length:=by
  rcases zP ys.length with h | h
  ·have:ys=[]:=List.eq_nil_of_length_eq_zero h;rw [this] at hlt;simp [ai] at hlt
  ·exact h
 have m:(((ys.length:Nat):Int)==0)=false:=zB O;have n:=ab ha;have u:=ab hb;have o:=ab j;have x:=ab l;have f:=ab hlt;subst B E;clear D G ha hb j l hlt;go_enter Tryz.func171,Tryz.ntmps171
 go_wp2_with fail;refine (oT _ _ xs ys _ n u o x).mono ?_;rintro e w1 ⟨rfl,q1,rfl⟩;have a:=sY f;generalize gG (ai xs) (ai ys)=o1 at a ⊢;go_wp2_with fail;refine (zM _ xs _ (n.keep0 (aj (ae _ _) _)) O).mono ?_;rintro e N ⟨H,rfl,p,s,t⟩;have y:=ab p;have z:=ab s;have A:=ab t;clear p s t;go_wp2;go_ret2
 exact ⟨_,H,rfl,⟨[],Ws.nil _,rfl,rfl,Z⟩,⟨xs,y,o,rfl,zL⟩,aa (aj (ae _ _) _) z,fun k I=>by simp [ar] at I,A⟩
theorem div_one (t u:Value) (xs:List Nat) (y:Nat) (w:World) (ha:Ws w t xs) (hb:Ws w u [y]) (x:Tr xs) (n:Tr [y]) (hx:2<xs.length) (c:y<=ai xs) (hl:xs.length<=9000000000000) :
  Calls Tryz.prog 171 #[t,u] w fun e w'=>∃ q r,e=.returned (.tuple #[q,r])/\aQ w' q (ai xs / y) xs.length/\aQ w' r (ai xs % y) 1/\w.grownBy w' none/\bn w q/\bn w r:=by
 obtain ⟨ao,ca,S,T,j,U⟩:=ha.open;obtain ⟨bo,cb,V,W,l,D⟩:=hb.open;unfold maxLen at j l;obtain ⟨b,off,rfl,X,a⟩:=D 0 Z;simp only [Nat.add_zero,List.getElem_cons_zero] at a;have d:0<y:=by have:=n.pos;simp only [ai] at this;omega
 have f:y<4294967296:=hb.sm y Z;have z:=ab ha;have J:=ab hb;have K:=ab x;have L:=ab n;have o:Hid (ai [y]<=ai xs):=by simp only [ai];exact c
 subst S V;clear U D ha hb x n c;go_enter Tryz.func171,Tryz.ntmps171
 go_wp2_with fail;refine (oT _ _ xs [y] _ z J K L).mono ?_;rintro e w1 ⟨rfl,q1,rfl⟩;have g:=mV o;generalize gG (ai xs) (ai [y])=o1 at g ⊢;go_wp2_with fail;refine (vF _ xs y _ (z.keep0 (aj (ae _ _) _)) d f O).mono ?_;rintro e m ⟨Y,r,rfl,s,E,F,G⟩;have p:r<4294967296:=by rw [s];exact Nat.lt_trans (Nat.mod_lt _ d) f
 have M:=ab E;have A:=ab F;have N:=ab G;have P:=ab s;clear E F G s;go_wp2_with fail;have i:bW (m.alloc (Obj.cells #[Value.int IntKind.u32 (r:Nat)] 140)) m.heap.size [r]:=by
  unfold bW;show (m.heap.push _)[m.heap.size]? = _
  rw [Array.getElem?_push_size];rfl
 have B:=i.ws (Sm.cons p Sm.nil) (by unfold maxLen;simp);clear i;refine (dX _ _ _ B).mono ?_;rintro e w3 ⟨r',rfl,rfl,H,I⟩;have Q:=ab H;have R:=ab I;clear B H I;go_wp2;go_ret2
 refine ⟨Y,r',rfl,M.keep0 (ag (ae _ _) _),?_,ag (aa (aj (ae _ _) _) A) _,N,?_⟩
 ·have h:=Q.out;simp only [ai,Nat.mul_zero,Nat.add_zero,List.length_singleton] at h;rw [<- P];exact h
 ·intro k C;rw [R] at C;have:=A.out.size;simp [ar] at C;simp at this;omega
theorem rO {c a:World} {v1 v2:Value} {k d e:Nat} (f:(w.drewN k).grownBy c none) (h:aQ c v1 d 2) (f1:bn (w.drewN k) v1) (g:c.grownBy a none) (i:aQ a v2 e 2) (j:bn c v2) :
  aQ a v1 d 2/\aQ a v2 e 2/\w.grownBy a none/\bn w v1/\bn w v2 :=
 ⟨h.keep0 g,i,aa (aa (aj (ae _ _) _) f) g,f1,fun k l=>Nat.le_trans f.size (j k l)⟩
theorem Ao (x y:Value) (xs ys:List Nat) (w:World) (ha:Ws w x xs) (hb:Ws w y ys) (z:Tr xs) (n:Tr ys) (A:xs.length<=2) (hy:0<ys.length) (o:ys.length<=2) (p:ai ys<=ai xs) :
  Calls Tryz.prog 171 #[x,y] w fun e w'=>∃ q r,e=.returned (.tuple #[q,r])/\aQ w' q (ai xs / ai ys) 2/\aQ w' r (ai xs % ai ys) 2/\w.grownBy w' none/\bn w q/\bn w r:=by
 obtain ⟨ao,ca,ea,he,d,Ha⟩:=ha.open;obtain ⟨bo,cb,eb,hf,f,Hb⟩:=hb.open;unfold maxLen at d f;have B:(((ys.length:Nat):Int)==0)=false:=zB O;have K:0<ai ys:=by
  have:=jh n (by intro e;rw [e] at hy;simp at hy);have p3:0<4294967296^(ys.length-1):=Nat.pow_pos zD;omega
 have a:ai xs<18446744073709551616:=by
  have h1:=bw ha.sm;have h2:4294967296^xs.length<=4294967296^2:=Nat.pow_le_pow_right zD A;omega
 have C:=ab ha;have D:=ab hb;have L:=ab z;have M:=ab n;have s:=ab p;subst ea eb;clear Ha Hb ha hb z n;go_enter Tryz.func171,Tryz.ntmps171
 go_wp2_with fail;refine (oT _ _ xs ys _ C D L M).mono ?_;rintro e w1 ⟨rfl,q1,rfl⟩;have c:=mV s;generalize gG (ai xs) (ai ys)=o1 at c ⊢;go_wp2_with fail;refine (jb _ xs _ (C.keep0 (aj (ae _ _) _)) A).mono ?_;rintro e w2 ⟨rfl,rfl⟩;go_wp2_with fail;refine (jb _ ys _ (D.keep0 (aj (ae _ _) _)) o).mono ?_;rintro e w3 ⟨rfl,rfl⟩;generalize hX:ai xs=X at *;generalize hY:ai ys=Y at *;have N:=ab hX;have P:=ab hY;clear hX hY;have t:X / Y<18446744073709551616:=Nat.lt_of_le_of_lt (Nat.div_le_self _ _) a;have u:X % Y<18446744073709551616:=Nat.lt_of_le_of_lt (Nat.mod_le _ _) a;obtain ⟨j,k⟩:=eX (X / Y);obtain ⟨g,i⟩:=eX (X % Y);have Q:((X:Int) / (Y:Int))=(j:Int):=by rw [k,Int.natCast_ediv]
 have R:((X:Int) % (Y:Int))=(g:Int):=by rw [i,Int.natCast_emod]
 have S:((X:Int).tmod (Y:Int))=(g:Int):=by rw [i,Int.tmod_eq_emod_of_nonneg O,Int.natCast_emod]
 rw [<- k] at t;rw [<- i] at u;have T:IntKind.u64.wrap (j:Int)=(j:Int):=IntWalk.u64_in _ ⟨O,O⟩;have U:IntKind.u64.wrap (g:Int)=(g:Int):=IntWalk.u64_in _ ⟨O,O⟩;have V:=ab k;have W:=ab i;clear k i;go_wp2;go_region_with (first | (go_at_call_of 139 (Value.int .u64 (j:Int));refine (eY _ _ O O).mono ?_;rintro e w5 ⟨E,rfl,l,F,G⟩) | (go_at_call_of 139 (Value.int .u64 (g:Int));refine (eY _ _ O O).mono ?_;rintro e w6 ⟨H,rfl,m,I,J⟩))
 all_goals go_wp2
 all_goals go_ret2
 all_goals rw [Int.toNat_natCast] at l m
 all_goals rw [V] at l
 all_goals rw [W] at m
 all_goals rw [N,P]
 all_goals first
  | (have h:=rO F l G I m J;exact ⟨E,H,rfl,h.1,h.2.1,h.2.2.1,h.2.2.2.1,h.2.2.2.2⟩)
  | (have h:=rO I m J F l G;exact ⟨E,H,rfl,h.2.1,h.1,h.2.2.1,h.2.2.2.2,h.2.2.2.1⟩)
theorem fL (j k:Value) (m n L M:Nat) (w:World) (ha:aQ w j m L) (hb:aQ w k n M) (hn:0<n) (C:L<=9000000000000) (D:M<=9000000000000) :
  Calls Tryz.prog 171 #[j,k] w fun e w'=>∃ q r,e=.returned (.tuple #[q,r])/\aQ w' q (m / n) (L+2)/\aQ w' r (m % n) (L+2)/\w.grownBy w' none/\bn w q/\bn w r:=by
 obtain ⟨xs,o,t,p,E⟩:=ha;obtain ⟨ys,u,s,l,F⟩:=hb;have x:0<ys.length:=by
  rcases zP ys.length with h | h
  ·have:ys=[]:=List.eq_nil_of_length_eq_zero h;rw [this] at l;simp [ai] at l;omega
  ·exact h
 rcases Nat.lt_or_ge (ai xs) (ai ys) with hlt | d
 ·refine (Cl j k xs ys w o u t s hlt O).mono ?_;rintro e w' ⟨q,r,rfl,c,a,f,g,i⟩;rw [p] at a;rw [p,l] at hlt;refine ⟨q,r,rfl,?_,?_,f,g,i⟩
  ·rw [Nat.div_eq_of_lt hlt];exact c.mono O
  ·rw [Nat.mod_eq_of_lt hlt];exact a.mono O
 ·have z:ys.length<=xs.length:=by
   rcases Nat.lt_or_ge xs.length ys.length with h | h
   ·have:=cC o.sm s h;omega
   ·exact h
  by_cases A:xs.length<=2
  ·refine (Ao j k xs ys w o u t s A x O d).mono ?_;rintro e w' ⟨q,r,rfl,c,a,f,g,i⟩;rw [p,l] at c a;exact ⟨q,r,rfl,c.mono O,a.mono O,f,g,i⟩
  ·by_cases B:ys.length=1
   ·obtain ⟨y,rfl⟩:=List.length_eq_one_iff.1 B;have hy:y=n:=by rw [<- l];simp [ai]
    refine (div_one j k xs y w o u t s O (by simp only [ai] at d;omega) O).mono ?_;rintro e w' ⟨q,r,rfl,c,a,f,g,i⟩;rw [p,hy] at c a;exact ⟨q,r,rfl,c.mono O,a.mono O,f,g,i⟩
   ·refine (Cm j k xs ys w o u t s O O d O z).mono ?_;rintro e w' ⟨q,r,rfl,c,a,f,g,i⟩;rw [p,l] at c a;exact ⟨q,r,rfl,c.mono O,a.mono O,f,g,i⟩
theorem Ah (va vb:Value) (d a:List Nat) (w:World) (ha:Ws w va d) (hb:Ws w vb a) (K:Tr d) (M:Tr a) (N:0<ai d) (L:Nat) (P:d.length<=L) (Q:a.length<=L) (hl:L<=8000000000000) :
  Calls Tryz.prog 170 #[va,vb] w fun e w'=>∃ g,e=.returned g/\aQ w' g (Nat.gcd (ai d) (ai a)) (L+2)/\w.grownBy w' none:=by
 obtain ⟨ao,ca,ea,hf,o,Ha⟩:=ha.open;obtain ⟨bo,cb,eb,hj,p,Hb⟩:=hb.open;obtain ⟨G,hG⟩:=eX (Nat.gcd (ai d) (ai a));rw [<- hG];have H0:Hid (∃ xs ys:List Nat,Ws w (.slice ao d.length ca) xs/\Ws w (.slice bo a.length cb) ys/\Tr xs/\Tr ys/\0<ai xs/\xs.length<=L/\ys.length<=L/\Nat.gcd (ai xs) (ai ys)=G/\w.grownBy w none/\ai ys=ai a) :=
  ⟨d,a,by rw [<- ea];exact ha,by rw [<- eb];exact hb,K,M,N,P,Q,hG.symm,ae _ _,rfl⟩
 subst ea eb;clear Ha Hb ha hb K M N P Q hG hf o hj p;go_enter Tryz.func170,Tryz.ntmps170
 go_wp2;go_loopg [0,1] (ai a) (fun k av bv wr=>Hid (∃ xs ys:List Nat,Ws wr av xs/\Ws wr bv ys/\Tr xs/\Tr ys/\0<ai xs/\xs.length<=L/\ys.length<=L/\Nat.gcd (ai xs) (ai ys)=G/\w.grownBy wr none/\ai ys=k))
 case atStart=>exact H0
 case round =>
  obtain ⟨xs,ys,h1,h2,h3,h4,h5,h6,h7,h8,h9,hk⟩:=hrel.out;obtain ⟨hu,hv,rfl,hf,o,_⟩:=h1.open;obtain ⟨hw,hz,rfl,hj,p,_⟩:=h2.open;unfold maxLen at o p;have F:=ab h1;have t:=ab h2;have H3:=ab h3;have H:=ab h4;have H5:=ab h5;have R:=ab h8;have S:=ab h9;have T:=ab hk;clear h1 h2 h3 h4 h5 h8 h9 hk hrel H0;by_cases hy:2<ys.length
  ·have n:0<ai ys:=by
    have:=jh H (by intro e;rw [e] at hy;simp at hy);have p3:0<4294967296^(ys.length-1):=Nat.pow_pos zD;omega
   have j:=ab n;clear n;go_wp2_with fail;refine (fL _ _ (ai xs) (ai ys) L L _ ⟨xs,F,H3,rfl,h6⟩ ⟨ys,t,H,rfl,h7⟩ j O O).mono ?_;rintro e w2 ⟨q,r,rfl,k1,⟨rs,r1,r2,I,r4⟩,J,k4,k5⟩;have U:=ab r1;have R2:=ab r2;have R3:=ab I;have K3:=ab J;clear k1 r1 r2 I r4 J k4 k5;go_wp2;have hm:=Nat.mod_lt (ai xs) j;go_roundg (ai rs)
   case measure=>rw [R3,<- T];exact hm
   case rel=>exact ⟨ys,rs,t.keep0 K3,U,H,R2,j,h7,Nat.le_trans (ly U.sm R2 t.sm (by rw [R3];omega)) h7,by rw [R3,Nat.gcd_comm,<- Nat.gcd_rec,Nat.gcd_comm];exact R,aa S K3,rfl⟩
  ·by_cases f:ys.length=0
   ·have hp:(((ys.length:Nat):Int)==0)=true:=beq_iff_eq.2 O;have e0:ys=[]:=List.eq_nil_of_length_eq_zero f;have E0:=ab e0;clear e0 f;go_wp2;go_ret;refine ⟨_,rfl,⟨xs,F,H3,?_,O⟩,S⟩;have:=R.out;rw [E0] at this;simp only [ai,Nat.gcd_zero_right] at this;exact this
   ·have hp:(((ys.length:Nat):Int)==0)=false:=zB O;have i:ys.length<=2:=O
    by_cases hx:2<xs.length
    ·have n:0<ai ys:=by
      have:=jh H (by intro e;rw [e] at f;simp at f);have p3:0<4294967296^(ys.length-1):=Nat.pow_pos zD;omega
     have j:=ab n;clear n f hy;go_wp2_with fail;refine (fL _ _ (ai xs) (ai ys) L L _ ⟨xs,F,H3,rfl,h6⟩ ⟨ys,t,H,rfl,h7⟩ j O O).mono ?_;rintro e w2 ⟨q,r,rfl,k1,⟨rs,r1,r2,I,r4⟩,J,k4,k5⟩;obtain ⟨hA,hB,rfl,hC,ho,_⟩:=r1.open;have hm:=Nat.mod_lt (ai xs) j;have rl:rs.length<=2:=Nat.le_trans (ly r1.sm r2 t.sm (by rw [I];omega)) i;have U:=ab r1;have V:=ab (t.keep0 J);have TG:Hid (Nat.gcd (ai ys) (ai rs)=G):=by rw [I,Nat.gcd_comm,<- Nat.gcd_rec,Nat.gcd_comm];exact R
     have hq:=ab (aa S J);clear k1 r1 r2 I r4 J k4 k5 hm ho F t H3 H H5 R S T j;have z:ai ys<18446744073709551616:=oB V.sm i;have l:ai rs<18446744073709551616:=oB U.sm rl
     go_wp2_with fail;refine (jb _ ys _ V i).mono ?_;rintro e w3 ⟨rfl,rfl⟩;go_wp2_with fail;refine (jb _ rs _ U rl).mono ?_;rintro e w3 ⟨rfl,rfl⟩;have c:=TG;generalize ai ys=X at z c ⊢;generalize ai rs=Y at l c ⊢
     go_wp2;go_loopw [9,10] (fun xv E wv=>∃ x y q:Nat,x<18446744073709551616/\y<18446744073709551616/\xv=.int .u64 x/\E=.int .u64 y/\wv=w3.drewN q/\Hid (Nat.gcd x y=G)) (fun _ E _=>(intOf E).toNat)
     case atStart=>exact ⟨X,Y,0,z,l,rfl,rfl,rfl,c⟩
     case round =>
      clear z l c
      obtain ⟨x,y,q,hs,D,rfl,rfl,rfl,HG⟩:=hrel;by_cases m:y=0
      ·have A:=ab m;have W:y<=0:=O
       clear m;go_wp2_with fail;refine (eY _ _ O O).mono ?_;rintro e w5 ⟨g,rfl,a1,a2,a3⟩;have A1:=ab a1;have A2:=ab a2;clear a1 a2 a3;go_wp2;go_ret;refine ⟨g,rfl,?_,aa hq (aa (aj (ae _ _) _) A2)⟩;have h:=A1.out;have hg:=HG.out;rw [A,Nat.gcd_zero_right] at hg;rw [Int.toNat_natCast,hg] at h;exact h.mono O
      ·have f:1<=y:=O
       obtain ⟨u,s⟩:=eX (x % y);have B:((x:Int) % (y:Int))=(u:Int):=by rw [s,Int.natCast_emod]
       have C:((x:Int).tmod (y:Int))=(u:Int):=by rw [s,Int.tmod_eq_emod_of_nonneg O,Int.natCast_emod]
       have hr:u<y:=by rw [s];exact Nat.mod_lt _ O
       have EZ:=ab s;clear s m;go_wp2;go_quiet (fail)
       go_wp2;go_roundw
       case rel=>exact ⟨y,u,_,D,O,rfl,by first | rfl | rw [B] | rw [C],by first | rfl | (simp only [World.drewN_drewN];rfl),by rw [EZ,Nat.gcd_comm,<- Nat.gcd_rec,Nat.gcd_comm];exact HG⟩
       case measure=>simp [intOf];omega
    ·have he:xs.length<=2:=O
     clear f hy;have z:ai xs<18446744073709551616:=oB F.sm he;have l:ai ys<18446744073709551616:=oB t.sm i
     go_wp2_with fail;refine (jb _ xs _ F he).mono ?_;rintro e w3 ⟨rfl,rfl⟩;go_wp2_with fail;refine (jb _ ys _ t i).mono ?_;rintro e w3 ⟨rfl,rfl⟩;have c:=R;generalize ai xs=X at z c ⊢;generalize ai ys=Y at l c ⊢
     go_wp2;go_loopw [9,10] (fun xv E wv=>∃ x y q:Nat,x<18446744073709551616/\y<18446744073709551616/\xv=.int .u64 x/\E=.int .u64 y/\wv=w3.drewN q/\Hid (Nat.gcd x y=G)) (fun _ E _=>(intOf E).toNat)
     case atStart=>exact ⟨X,Y,0,z,l,rfl,rfl,rfl,c⟩
     case round =>
      clear z l c
      obtain ⟨x,y,q,hs,D,rfl,rfl,rfl,HG⟩:=hrel;by_cases m:y=0
      ·have A:=ab m;have W:y<=0:=O
       clear m;go_wp2_with fail;refine (eY _ _ O O).mono ?_;rintro e w5 ⟨g,rfl,a1,a2,a3⟩;have A1:=ab a1;have A2:=ab a2;clear a1 a2 a3;go_wp2;go_ret;refine ⟨g,rfl,?_,aa S (aa (aj (ae _ _) _) A2)⟩;have h:=A1.out;have hg:=HG.out;rw [A,Nat.gcd_zero_right] at hg;rw [Int.toNat_natCast,hg] at h;exact h.mono O
      ·have f:1<=y:=O
       obtain ⟨u,s⟩:=eX (x % y);have B:((x:Int) % (y:Int))=(u:Int):=by rw [s,Int.natCast_emod]
       have C:((x:Int).tmod (y:Int))=(u:Int):=by rw [s,Int.tmod_eq_emod_of_nonneg O,Int.natCast_emod]
       have hr:u<y:=by rw [s];exact Nat.mod_lt _ O
       have EZ:=ab s;clear s m;go_wp2;go_quiet (fail)
       go_wp2;go_roundw
       case rel=>exact ⟨y,u,_,D,O,rfl,by first | rfl | rw [B] | rw [C],by first | rfl | (simp only [World.drewN_drewN];rfl),by rw [EZ,Nat.gcd_comm,<- Nat.gcd_rec,Nat.gcd_comm];exact HG⟩
       case measure=>simp [intOf];omega
theorem jm (a c:Value) (m n L M:Nat) (w:World) (ha:aQ w a m L) (hb:aQ w c n M) (o:0<m) (p:L<=8000000000000) (d:M<=8000000000000) :
  Calls Tryz.prog 170 #[a,c] w fun e w'=>∃ g,e=.returned g/\aQ w' g (Nat.gcd m n) (max L M+2)/\w.grownBy w' none:=by
 obtain ⟨xs,f,h,i,q⟩:=ha;obtain ⟨ys,j,k,l,r⟩:=hb;rw [<- i,<- l];exact Ah a c xs ys w f j h k O (max L M) O O O
structure gh (w:World) (b off:Nat) (neg:Bool) (v:Value):Prop where
 c0:w.cell? ⟨b,off,none⟩=some (.bool neg)
 c1:w.cell? ⟨b,off+1,none⟩=some v
 f0:w.frozen? ⟨b,off,none⟩=false
 f1:w.frozen? ⟨b,off+1,none⟩=false
theorem eD {a:Addr} (h:w.cell? a=some v):a.block<w.heap.size:=by
 rcases Nat.lt_or_ge a.block w.heap.size with c | c
 ·exact c
 ·simp [World.cell?,Array.getElem?_eq_none c] at h
theorem gh.lt {neg:Bool} (h:gh w b off neg v):b<w.heap.size:=eD h.c0
structure fS (w w':World) (b off:Nat):Prop where
 gr:w.grownBy w' (some b)
 rest:∀ o,o≠off->o≠off+1->w'.cell? ⟨b,o,none⟩=w.cell? ⟨b,o,none⟩
 fr:∀ o,w'.frozen? ⟨b,o,none⟩=w.frozen? ⟨b,o,none⟩
theorem fS.of_gr (h:w.grownBy w' none) (b off:Nat) (hb:b<w.heap.size):fS w w' b off :=
 ⟨⟨h.os,h.tape,h.output,h.size,fun k a _=>h.block k a Z⟩,fun o _ _=>World.cell?_of_block (h.block b hb Z),fun o=>World.frozen?_of_block (h.block b hb Z)⟩
theorem fS.trans {a:World} (h:fS w w1 b off) (k:fS w1 a b off):fS w a b off :=
 ⟨aw h.gr k.gr (fun _ _ e=>e) (fun _ _ e=>e),fun o c d=>(k.rest o c d).trans (h.rest o c d),fun o=>(k.fr o).trans (h.fr o)⟩
theorem fS.set {o:Nat} (v:Value) (d:o=off∨o=off+1):fS w (w.setCell ⟨b,o,none⟩ v) b off:=by
 refine ⟨⟨rfl,rfl,rfl,Z,fun k _ c=>heap_setCell_other _ _ _ _ (fun e=>c (by rw [e]))⟩,fun a f g=>?_,fun a=>Z⟩;refine World.cell?_setCell_other w ⟨b,o,none⟩ ⟨b,a,none⟩ v ?_;intro e;simp only [Addr.mk.injEq,true_and,and_true] at e;omega
theorem gh.keep {f c:Nat} {neg:Bool} (h:gh w b off neg v) (d:fS w w' f c) (g:b≠f∨off+1<c∨c+1<off):gh w' b off neg v:=by
 by_cases hb:b=f
 ·subst hb;have i:off+1<c∨c+1<off:=by rcases g with h | h;exact absurd rfl h;exact h
  exact ⟨(d.rest off O O).trans h.c0,(d.rest (off+1) O O).trans h.c1,(d.fr off).trans h.f0,(d.fr (off+1)).trans h.f1⟩
 ·have e:w'.heap[b]? = w.heap[b]?:=d.gr.block b h.lt (fun e=>hb (zJ e));exact ⟨(World.cell?_of_block (a:=⟨b,off,none⟩) e).trans h.c0,(World.cell?_of_block (a:=⟨b,off+1,none⟩) e).trans h.c1,(World.frozen?_of_block (a:=⟨b,off,none⟩) e).trans h.f0,(World.frozen?_of_block (a:=⟨b,off+1,none⟩) e).trans h.f1⟩
theorem gh.keep0 {neg:Bool} (h:gh w b off neg v) (hg:w.grownBy w' none):gh w' b off neg v:=by
 have e:w'.heap[b]? = w.heap[b]?:=hg.block b h.lt Z;exact ⟨(World.cell?_of_block (a:=⟨b,off,none⟩) e).trans h.c0,(World.cell?_of_block (a:=⟨b,off+1,none⟩) e).trans h.c1,(World.frozen?_of_block (a:=⟨b,off,none⟩) e).trans h.f0,(World.frozen?_of_block (a:=⟨b,off+1,none⟩) e).trans h.f1⟩
def ay (w:World) (b off:Nat) (z:Int) (L:Nat):Prop :=
 ∃ neg v,gh w b off neg v/\aQ w v z.natAbs L/\neg=decide (z<0)/\ar v≠some b
def dQ (w w':World) (b off:Nat):Prop:=∀ v,w'.cell? ⟨b,off+1,none⟩=some v->bn w v
theorem dQ.of (hc:w'.cell? ⟨b,off+1,none⟩=some v) (c:bn w1 v) (d:w.heap.size<=w1.heap.size):dQ w w' b off:=fun u a=>by
 rw [hc] at a;have:=zJ a;subst this;intro k e;exact Nat.le_trans d (c k e)
def sg (neg:Bool) (n:Nat):Int:=if neg then -(n:Int) else n
theorem nG (x:Int) (neg:Bool) (h:neg=decide (x<0)):sg neg x.natAbs=x:=by
 subst h;unfold sg;by_cases a:x<0
 ·simp [a];omega
 ·simp [a];omega
theorem sg_not (x:Int) (neg:Bool) (h:neg=decide (x<0)):sg (!neg) x.natAbs = -x:=by
 subst h;unfold sg;by_cases a:x<0
 ·simp [a];omega
 ·simp [a];omega
theorem sg_mul (x y:Int) (a b:Bool) (ha:a=decide (x<0)) (hb:b=decide (y<0)):sg (a != b) (x.natAbs*y.natAbs)=x*y:=by
 have d:=nG x a ha;have e:=nG y b hb;rw [<- Int.natAbs_mul];generalize hm:(x*y).natAbs=m;have c:(m:Int)=(x.natAbs:Int)*(y.natAbs:Int):=by rw [<- hm,Int.natAbs_mul,Int.natCast_mul]
 rw [<- d,<- e];unfold sg;cases a<;>cases b<;>simp [c,Int.neg_mul,Int.mul_neg]
theorem fW (b off:Nat) (i:Bool) (v0:Value) (neg:Bool) (v:Value) (n L:Nat) (w:World) (f:gh w b off i v0) (hn:aQ w v n L) (j:ar v≠some b) :
  Calls Tryz.prog 94 #[.pointer (some ⟨b,off,none⟩),.bool neg,v] w fun e w'=>e=.returned (.pointer (some ⟨b,off,none⟩))/\fS w w' b off/\ay w' b off (sg neg n) L/\w'.cell? ⟨b,off+1,none⟩=some v:=by
 obtain ⟨xs,q,u,x,z⟩:=hn;obtain ⟨a,c,rfl,A,l,_⟩:=q.open;unfold maxLen at l;have m:=ab f;have y:=ab q;have r:=ab u;have s:=ab x;have c0:=f.c0;have c1:=f.c1;have f0:=f.f0;have f1:=f.f1;have t:=ab j;clear f q u x j;have fin:∀ (nb:Bool),nb=(neg && decide (0<xs.length))->fS w ((w.setCell ⟨b,off+1,none⟩ (.slice a xs.length c)).setCell ⟨b,off,none⟩ (.bool nb)) b off/\ay ((w.setCell ⟨b,off+1,none⟩ (.slice a xs.length c)).setCell ⟨b,off,none⟩ (.bool nb)) b off (sg neg n) L/\((w.setCell ⟨b,off+1,none⟩ (.slice a xs.length c)).setCell ⟨b,off,none⟩ (.bool nb)).cell? ⟨b,off+1,none⟩=some (.slice a xs.length c):=by
  intro nb p;have hP:fS w ((w.setCell ⟨b,off+1,none⟩ (.slice a xs.length c)).setCell ⟨b,off,none⟩ (.bool nb)) b off:=(fS.set _ (.inr rfl)).trans (fS.set _ (.inl rfl));have hc:((w.setCell ⟨b,off+1,none⟩ (.slice a xs.length c)).setCell ⟨b,off,none⟩ (.bool nb)).cell? ⟨b,off+1,none⟩=some (.slice a xs.length c):=by
   rw [World.cell?_setCell_other _ _ _ _ Z];exact World.cell?_setCell_same _ _ _ m.c1
  refine ⟨hP,⟨nb,.slice a xs.length c,⟨?_,hc,?_,?_⟩,?_,?_,t⟩,hc⟩
  ·exact World.cell?_setCell_same _ _ _ (by rw [World.cell?_setCell_other _ _ _ _ Z];exact m.c0)
  ·rw [hP.fr];exact m.f0
  ·rw [hP.fr];exact m.f1
  ·have:(sg neg n).natAbs=n:=by unfold sg;split<;>omega
   rw [this];exact ⟨xs,y.keep hP.gr (fun k e h=>by cases e;exact t h),r,s,z⟩
  ·rw [p];have o:=s.out;by_cases g:xs.length=0
   ·have:xs=[]:=List.eq_nil_of_length_eq_zero g;rw [this] at o ⊢;simp only [ai] at o;subst o;cases neg<;>simp [sg]
   ·have B:0<n:=by
     have:=jh r (by intro e;rw [e] at g;simp at g);have C:0<4294967296^(xs.length-1):=Nat.pow_pos zD;omega
    cases neg
    ·simp [sg]
    ·simp only [sg,if_true,Bool.true_and];rw [decide_eq_true O,decide_eq_true O]
 have d:=ab fin;clear fin;cases neg
 ·go_enter Tryz.func94,Tryz.ntmps94
  go_wp2;go_ret;exact ⟨rfl,d _ Z⟩
 ·by_cases g:0<xs.length
  ·go_enter Tryz.func94,Tryz.ntmps94
   go_wp2;go_ret;exact ⟨rfl,d _ (by simp [g])⟩
  ·go_enter Tryz.func94,Tryz.ntmps94
   go_wp2;go_ret;exact ⟨rfl,d _ (by simp [g])⟩
theorem cw (h:w.grownBy w1 none) (a:fS w1 w' b off) (hb:w.heap.size<=b):w.grownBy w' none :=
 aw h a.gr (fun _ _ e=>e) (fun k c e=>by cases e;omega)
theorem az (k:Nat):w.grownBy (w.drewN k) none:=aj (ae _ _) k
theorem ay.keep {a c L:Nat} {z:Int} (h:ay w b off z L) (f:fS w w' a c) (d:b≠a∨off+1<c∨c+1<off) (i:∀ v,w.cell? ⟨b,off+1,none⟩=some v->ar v≠some a):ay w' b off z L:=by
 obtain ⟨neg,v,g,j,l,m⟩:=h;exact ⟨neg,v,g.keep f d,j.keep f.gr (fun k e=>by cases e;exact i v g.c1),l,m⟩
theorem ay.keep0 {L:Nat} {z:Int} (h:ay w b off z L) (hg:w.grownBy w' none):ay w' b off z L:=by
 obtain ⟨neg,v,a,c,d,e⟩:=h;exact ⟨neg,v,a.keep0 hg,c.keep0 hg,d,e⟩
theorem ay.lt {L:Nat} {z:Int} (h:ay w b off z L):b<w.heap.size:=by
 obtain ⟨neg,v,a,c,d,e⟩:=h;exact a.lt
theorem ay.mono {L L':Nat} {z:Int} (h:ay w b off z L) (a:L<=L'):ay w b off z L':=by
 obtain ⟨neg,v,c,d,e,f⟩:=h;exact ⟨neg,v,c,d.mono a,e,f⟩
theorem fV {w1:World} (h:bn w v) (hb:b<w.heap.size):ar v≠some b:=fun e=>by
 have:=h b e;omega
theorem fH (w:World):gh (w.alloc (.cells #[.bool false,.slice none 0 0] 106)) w.heap.size 0 false (.slice none 0 0) :=
 ⟨Z,Z,Z,Z⟩
theorem ki (b off:Nat) (a:Bool) (v0:Value) (x:Int) (w:World) (m:gh w b off a v0) (z:-9223372036854775808<=x) (A:x<=9223372036854775807) :
  Calls Tryz.prog 91 #[.pointer (some ⟨b,off,none⟩),.int .i64 x] w fun e w'=>e=.returned (.pointer (some ⟨b,off,none⟩))/\fS w w' b off/\ay w' b off x 2/\dQ w w' b off:=by
 have s:=ab m;have hb:=m.lt;clear m;by_cases u:x<0
 ·have t:IntKind.u64.wrap (-IntKind.u64.wrap x) = -x:=by rw [IntKind.wrap_u64,IntKind.wrap_u64];omega
  go_enter Tryz.func91,Tryz.ntmps91
  go_wp2_with fail;refine (eY _ _ ?p1 ?p2).mono ?_
  case p1=>omega
  case p2=>omega
  rintro e w1 ⟨r,rfl,f,g,i⟩;have n:=ab f;have c:=ab g;have d:=ab i;clear f g i;go_wp2_with fail;refine (fW b off a v0 _ r _ 2 w1 (s.keep0 c) n (fV (w1:=w) d hb)).mono ?_;rintro e y ⟨rfl,j,k,l⟩;have o:=ab l;clear l;have p:=ab j;have q:=ab k;clear j k;go_wp2;go_ret;refine ⟨rfl,(fS.of_gr c b off hb).trans p,?_,dQ.of o d zL⟩;have h:=q.out;rw [show (-x).toNat=x.natAbs from O,nG x true (by simp [u])] at h;exact h
 ·go_enter Tryz.func91,Tryz.ntmps91
  go_wp2_with fail;refine (eY _ _ O O).mono ?_;rintro e w1 ⟨r,rfl,f,g,i⟩;have n:=ab f;have c:=ab g;have d:=ab i;clear f g i;go_wp2_with fail;refine (fW b off a v0 _ r _ 2 w1 (s.keep0 c) n (fV (w1:=w) d hb)).mono ?_;rintro e y ⟨rfl,j,k,l⟩;have o:=ab l;clear l;have p:=ab j;have q:=ab k;clear j k;go_wp2;go_ret;refine ⟨rfl,(fS.of_gr c b off hb).trans p,?_,dQ.of o d zL⟩;have h:=q.out;rw [show x.toNat=x.natAbs from O,nG x _ (by first | rfl | (simp;omega))] at h;exact h
theorem dF (x:Int) (w:World) (f:-9223372036854775808<=x) (g:x<=9223372036854775807) :
  Calls Tryz.prog 53 #[.int .i64 x] w fun e w'=>e=.returned (.pointer (some ⟨w.heap.size,0,none⟩))/\w.grownBy w' none/\ay w' w.heap.size 0 x 2/\dQ w w' w.heap.size 0:=by
 go_enter Tryz.func53,Tryz.ntmps53
 go_wp2_with fail;refine (ki w.heap.size 0 false (.slice none 0 0) x _ (fH w) f g).mono ?_;rintro e w1 ⟨rfl,a,c,d⟩;have h:=ab d;clear d;have i:=ab a;have j:=ab c;clear a c;go_wp2;go_ret;exact ⟨rfl,cw (ag (ae _ _) _) i zL,j,fun v l k m=>Nat.le_trans Z (h v l k m)⟩
theorem pY (b off g h:Nat) (a:Bool) (v0:Value) (x:Int) (L:Nat) (w:World) (d:gh w b off a v0) (m:ay w g h x L) (z:L<=10000000000000) :
  Calls Tryz.prog 55 #[.pointer (some ⟨b,off,none⟩),.pointer (some ⟨g,h,none⟩)] w fun e w'=>e=.returned (.pointer (some ⟨b,off,none⟩))/\fS w w' b off/\ay w' b off x L/\dQ w w' b off:=by
 have n:=ab d;have hb:=d.lt;obtain ⟨neg,v,c,i,j,r⟩:=m;have o:=ab c;have c0:=c.c0;have c1:=c.c1;have p:=ab i;have q:=ab j;clear d c i j r;go_enter Tryz.func55,Tryz.ntmps55
 go_wp2;go_region_with (first | (go_at_call 92;refine (qj _ _ L _ (p.keep0 (az _)) O).mono ?_;rintro e w1 ⟨s,rfl,t,f,k⟩;have q0:=(o.keep0 (aa (az _) f)).c0) | (go_at_call 94;refine (fW b off a v0 neg s _ L w1 (n.keep0 (aa (az _) f)) t (fV (w1:=w) k hb)).mono ?_;rintro e A ⟨rfl,u,l,y⟩))
 all_goals go_wp2
 all_goals go_ret
 all_goals rw [nG x neg q] at l
 all_goals exact ⟨rfl,(fS.of_gr (aa (az _) f) b off hb).trans u,l,dQ.of y k zL⟩
theorem mR (b off g h:Nat) (a:Bool) (v0:Value) (x:Int) (L:Nat) (w:World) (d:gh w b off a v0) (m:ay w g h x L) (z:L<=10000000000000) :
  Calls Tryz.prog 127 #[.pointer (some ⟨b,off,none⟩),.pointer (some ⟨g,h,none⟩)] w fun e w'=>e=.returned (.pointer (some ⟨b,off,none⟩))/\fS w w' b off/\ay w' b off (-x) L/\dQ w w' b off:=by
 have n:=ab d;have hb:=d.lt;obtain ⟨neg,v,c,i,j,r⟩:=m;have o:=ab c;have c0:=c.c0;have c1:=c.c1;have p:=ab i;have q:=ab j;clear d c i j r;go_enter Tryz.func127,Tryz.ntmps127
 go_wp2;go_region_with (first | (go_at_call 92;refine (qj _ _ L _ (p.keep0 (az _)) O).mono ?_;rintro e w1 ⟨s,rfl,t,f,k⟩;have q0:=(o.keep0 (aa (az _) f)).c0) | (go_at_call 94;refine (fW b off a v0 (!neg) s _ L w1 (n.keep0 (aa (az _) f)) t (fV (w1:=w) k hb)).mono ?_;rintro e A ⟨rfl,u,l,y⟩))
 all_goals go_wp2
 all_goals go_ret
 all_goals rw [sg_not x neg q] at l
 all_goals exact ⟨rfl,(fS.of_gr (aa (az _) f) b off hb).trans u,l,dQ.of y k zL⟩
end Go.Proofs.YtkbmbmdemajoaaaGreatDoor
