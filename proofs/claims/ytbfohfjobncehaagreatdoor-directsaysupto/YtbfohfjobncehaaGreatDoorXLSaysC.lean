/- For every net and any two numbers, voltaiclaw.DirectSays returns true and leaves its arguments as they were: what direct.Solve, direct.Power and direct.Seen answer is what the document's own laws say, worked out anew by the verifier's reference. The condition: the statement's second form (arguments whose bulk is at most 1048576); the package-level tables start as the program lays them. -/
import Derived.Test.YtbfohfjobncehaaGreatDoorXPz
import Derived.Test.YtbfohfjobncehaaGreatDoorXPA
namespace Go.Proofs.YtbfohfjobncehaaGreatDoor
open Go.RowKit
set_option linter.all false
set_option maxHeartbeats 8000000
set_option maxRecDepth 10000
open Go.ChangeShapes Go.WideShapes Go.ChangeAt Go.RowKit Go.Joins Go.Deep
theorem tQ {W:World} (h:laidMetH Tryz.prog Rows.directSaysUptoRow.laid W) {n:String} {d:DataW Unit} (a:(n,d)∈Rows.directSaysUptoRow.laid):Lib.VarReads Tryz.prog W n d:=by
 rw [MakeChecks.laidMetH_plain _ _ _ zK] at h;exact Lib.laidMet.reads h a
theorem tA {n:String} {d:DataW Unit} (i:Nat) (h:Rows.directSaysUptoRow.laid[i]? = some (n,d)):(n,d)∈Rows.directSaysUptoRow.laid:=List.mem_of_getElem? h
theorem contract (H:Type) (enc:TypeId×Value->H) (W:World) (base:Nat) (a:Array Value) (ds F:List (DataW H)) (f:List MemPlace)
  (hval:∀ (j:Nat) t v,Tryz.f3.params[j]? = some t->a[j]? = some v->Value.okWide Tryz.prog W .any base t v)
  (hW:DataW.Whole enc Tryz.prog Tryz.f3.params.toList Rows.directSaysSpec.vars false W a.toList ds F f) (hcond:Rows.uptoSmall H (ds++F)=true) (hL:laidMetH Tryz.prog Rows.directSaysUptoRow.laid W) (hS:W.ShapedOpen Tryz.prog) :
  Calls Tryz.prog 3 a W fun e E=>∃ v,e=.returned v/\Rows.directSaysSpec.post enc Tryz.prog Tryz.f3 false true false false W a v E:=by
 have y:=hW;obtain ⟨p,q,C,hV,rfl,M,N⟩:=hW;have G:DataW.TrodAll enc Tryz.prog W 0 (fun _=>true) true Tryz.f3.params.toList a.toList ds p:=C;rw [Tryz.params3] at G hval;obtain ⟨v0,P,d0,Q,R,q0,s,rfl,rfl,J,S⟩:=trodAll_cons G;obtain ⟨v1,T,d1,U,V,q1,u,rfl,rfl,h1,r1⟩:=trodAll_cons S;obtain ⟨v2,X,d2,Y,p2,q2,w,rfl,rfl,K,r2⟩:=trodAll_cons r1;obtain ⟨rfl,rfl,rfl⟩:=trodAll_nil r2;obtain rfl:a=#[v0,v1,v2]:=by cases a;simp_all
 obtain ⟨rfl,rfl⟩:=trodVars_none hV;have k0:=J;have z:∀ x∈R,x.block<W.heap.size:=by obtain ⟨m,l⟩:=k0;exact DataW.trod_lt m _ _ _ l
 have k1:=h1;have A:∀ x∈V,x.block<W.heap.size:=by obtain ⟨m,l⟩:=k1;exact DataW.trod_lt m _ _ _ l
 have I:=K;have B:∀ x∈p2,x.block<W.heap.size:=by obtain ⟨m,l⟩:=I;exact DataW.trod_lt m _ _ _ l
 obtain ⟨z1,rfl,rfl,rfl,_⟩:=open_int Tryz.underlying3 (hval 1 3 _ rfl rfl) h1;obtain ⟨z2,rfl,rfl,rfl,_⟩:=open_int Tryz.underlying3 (hval 2 3 _ rfl rfl) K;obtain ⟨c0,c1,y0,y1,m,rfl,hd,hp,D,n⟩:=open_agg2 Tryz.underlying24 zK Cx (hval 0 24 _ rfl rfl) J;obtain ⟨d,e0,hf,_⟩:=DataW.trod_int Tryz.underlying3 D;obtain rfl:c0=.int .i64 d:=by simpa using e0
 have c:Rows.uptoBulk y1.1<=1048576:=by
  have h1:=of_decide_eq_true hcond;rw [hd] at h1;simp only [List.append_nil,Rows.uptoBulkAll,Rows.uptoBulk] at h1;omega
 obtain ⟨ps,b,o,L,i⟩:=yB n c;obtain ⟨po,pc,rfl,_⟩:=id b;obtain ⟨ml,r⟩:=Tryz.laysM143.s1_3 W hS;have k:lM W:=⟨xY (tQ hL (tA 4 rfl)),⟨ml,r⟩,World.block_lt_of_cell? W _ r⟩;refine (Es d po pc ps z1 z2 W k (EK (tQ hL (tA 2 rfl))) (mark_of (tQ hL (tA 5 rfl))) b o O (by have:=BI n c b;omega) i).mono fun e E ⟨he,hg⟩=>?_
 subst he;have g:Below W.heap.size W E:=vf hg;exact ⟨_,rfl,_,_,_,[],_,[],y,trodAll_mk1 (shut_bool Tryz.underlying4 _),(trodAll_cons_mk (Below.trod qn zK (of_decide_eq_true zK) k0 g z) (trodAll_cons_mk (Below.trod qn zK (of_decide_eq_true zK) k1 g A) (trodAll_cons_mk (Below.trod qn zK (of_decide_eq_true zK) I g B) trodAll_mk0))),rfl,g.frame _,fun h=>by cases h⟩
def qp (cs:Array Value):Obj->Obj
 | .cells _ t frozen=>.cells cs t frozen
 | o=>o
noncomputable def nH (os:Os):World :=
 { World.holding Tryz.prog os ⟨#[],#[],[]⟩ with heap:=((((((((World.holding Tryz.prog os ⟨#[],#[],[]⟩).heap.modify 6 (qp #[.int .u8 0,.int .u8 1,.int .u8 28,.int .u8 2,.int .u8 29,.int .u8 14,.int .u8 24,.int .u8 3,.int .u8 30,.int .u8 22,.int .u8 20,.int .u8 15,.int .u8 25,.int .u8 17,.int .u8 4,.int .u8 8,.int .u8 31,.int .u8 27,.int .u8 13,.int .u8 23,.int .u8 21,.int .u8 19,.int .u8 16,.int .u8 7,.int .u8 26,.int .u8 12,.int .u8 18,.int .u8 6,.int .u8 11,.int .u8 5,.int .u8 10,.int .u8 9])).modify 7 (qp #[.int .u8 0,.int .u8 1,.int .u8 56,.int .u8 2,.int .u8 57,.int .u8 49,.int .u8 28,.int .u8 3,.int .u8 61,.int .u8 58,.int .u8 42,.int .u8 50,.int .u8 38,.int .u8 29,.int .u8 17,.int .u8 4,.int .u8 62,.int .u8 47,.int .u8 59,.int .u8 36,.int .u8 45,.int .u8 43,.int .u8 51,.int .u8 22,.int .u8 53,.int .u8 39,.int .u8 33,.int .u8 30,.int .u8 24,.int .u8 18,.int .u8 12,.int .u8 5,.int .u8 63,.int .u8 55,.int .u8 48,.int .u8 27,.int .u8 60,.int .u8 41,.int .u8 37,.int .u8 16,.int .u8 46,.int .u8 35,.int .u8 44,.int .u8 21,.int .u8 52,.int .u8 32,.int .u8 23,.int .u8 11,.int .u8 54,.int .u8 26,.int .u8 40,.int .u8 15,.int .u8 34,.int .u8 20,.int .u8 31,.int .u8 10,.int .u8 25,.int .u8 14,.int .u8 19,.int .u8 9,.int .u8 13,.int .u8 8,.int .u8 7,.int .u8 6])).modify 5 (qp #[.int .u64 1,.int .u64 10,.int .u64 100,.int .u64 1000,.int .u64 10000,.int .u64 100000,.int .u64 1000000,.int .u64 10000000,.int .u64 100000000,.int .u64 1000000000,.int .u64 10000000000,.int .u64 100000000000,.int .u64 1000000000000,.int .u64 10000000000000,.int .u64 100000000000000,.int .u64 1000000000000000,.int .u64 10000000000000000,.int .u64 100000000000000000,.int .u64 1000000000000000000,.int .u64 10000000000000000000])).modify 4 (qp #[.int .u8 128,.int .u8 191,.int .u8 160,.int .u8 191,.int .u8 128,.int .u8 159,.int .u8 144,.int .u8 191,.int .u8 128,.int .u8 143,.int .u8 0,.int .u8 0,.int .u8 0,.int .u8 0,.int .u8 0,.int .u8 0,.int .u8 0,.int .u8 0,.int .u8 0,.int .u8 0,.int .u8 0,.int .u8 0,.int .u8 0,.int .u8 0,.int .u8 0,.int .u8 0,.int .u8 0,.int .u8 0,.int .u8 0,.int .u8 0,.int .u8 0,.int .u8 0])).modify 0 (qp #[.int .i64 (-9),.int .i64 0,.int .i64 0,.int .i64 0,.int .i64 0,.string ⟨#[109,97,114,107]⟩])).modify 1 (qp #[.string ⟨#[]⟩,.string ⟨#[]⟩,.bool false,.bool false,.bool false,.string ⟨#[82]⟩,.string ⟨#[206,169]⟩,.bool true,.bool true,.bool false,.string ⟨#[76]⟩,.string ⟨#[72]⟩,.bool true,.bool true,.bool false,.string ⟨#[67]⟩,.string ⟨#[70]⟩,.bool true,.bool true,.bool false,.string ⟨#[86]⟩,.string ⟨#[86]⟩,.bool true,.bool false,.bool false,.string ⟨#[73]⟩,.string ⟨#[65]⟩,.bool true,.bool false,.bool false,.string ⟨#[69]⟩,.string ⟨#[]⟩,.bool true,.bool false,.bool true,.string ⟨#[71]⟩,.string ⟨#[83]⟩,.bool true,.bool false,.bool true,.string ⟨#[68]⟩,.string ⟨#[]⟩,.bool false,.bool false,.bool false])).modify 3 (qp (Go.Pinned.utf8FirstZ.map fun z:Nat=>Value.int .u8 z).toArray)) }
theorem Dn (os:Os):laidMetH Tryz.prog Rows.directSaysUptoRow.laid ((nH os).forCall (fun _ _=>0) ⟨#[],#[.agg #[.int .i64 0,.slice none 0 0],.int .i64 0,.int .i64 0],[]⟩).memory:=by
 rw [MakeChecks.laidMetH_plain _ _ _ zK];exact laidMet_of_run' 8 zK zK
theorem BT (os:Os) {H:Type} (enc:TypeId×Value->H):∃ places,DataW.whole enc Tryz.prog ((nH os).forCall (fun _ _=>0) ⟨#[],#[.agg #[.int .i64 0,.slice none 0 0],.int .i64 0,.int .i64 0],[]⟩).memory Tryz.f3.params.toList Rows.directSaysSpec.vars false (#[.agg #[.int .i64 0,.slice none 0 0],.int .i64 0,.int .i64 0]:Array Value).toList 8=some ([.agg [.lit (.int .i64 0),.nil],.lit (.int .i64 0),.lit (.int .i64 0)],[],places) :=
 ⟨[],zK⟩
theorem lifted (os:Os) (a:os.Started) (H:Type) (enc:TypeId×Value->H) (F:Stop.Interp) :
  ReturnsInHanded {} Tryz.checked os 3 .any ((Rows.OpenSpec.upto Rows.directSaysSpec).preRow enc Tryz.prog Tryz.f3 Rows.directSaysUptoRow.domain false Rows.directSaysUptoRow.laid) (((Rows.OpenSpec.upto Rows.directSaysSpec).at F).post enc Tryz.prog Tryz.f3 false true false false):=by
 obtain ⟨f,j⟩:=BT os enc;refine returnsInHanded_of_row (C:=Tryz.checked) (s:=Rows.OpenSpec.upto Rows.directSaysSpec) ownK a zK Tryz.func3
  (witness_row_at (enc:=enc) (C:=Tryz.checked) false (nH os) #[.agg #[.int .i64 0,.slice none 0 0],.int .i64 0,.int .i64 0] rfl zK zK zK
   (OpenSpec.preRow_of_cond 8 j zK (fun k l=>by cases l;kernel_rfl) zK (Dn os))) ?_
 intro W base d ds g b e h _ c _ i hS _;exact contract H enc W base d ds g b e h (c _ rfl) i hS
theorem said:Rows.DirectSaysUptoSaid :=
 OpenClaim.holds_of_cond 3 Tryz.f3 rfl rfl rfl rfl rfl rfl rfl ⟨rfl,rfl,rfl,rfl,rfl⟩ rfl rfl rfl rfl rfl zK Tryz.func3 zK
  (of_decide_eq_true zK) (by unfold Func.isWrapper;first | (rw [if_pos (by decide +kernel)];kernel_rfl) | (rw [if_neg (by decide +kernel)];exact ⟨rfl,rfl⟩))
  (fun os started H enc _ F=>by rw [OpenClaim.pre_eq_preRow];exact lifted os started H enc F)
theorem plain (f:FuncId) (b:Func) (e:Tryz.pinned.checked.prog.funcNamed "voltaic/voltaiclaw.DirectSays" = some f) (c:Tryz.pinned.checked.prog.funcs[f]? = some b) :
  false=Tryz.pinned.checked.prog.looks []/\∀ (j:Nat) t,b.params[j]? = some t->Tryz.pinned.checked.prog.wantsStandIn t=false:=by
 obtain rfl:f=3:=zJ ((show Tryz.prog.funcNamed "voltaic/voltaiclaw.DirectSays" = some 3 by kernel_rfl).symm.trans e) |>.symm
 obtain rfl:b=Tryz.f3:=(zJ (Tryz.func3.symm.trans c)).symm;refine ⟨zK,fun j t d=>?_⟩;rw [Tryz.params3] at d;have g:t∈[24,3,3]:=by simpa using Array.mem_of_getElem? d
 have a:([24,3,3].all fun u=>!Tryz.prog.wantsStandIn u)=true:=zK
 exact (show Tryz.prog.wantsStandIn t=false by simpa using List.all_eq_true.1 a t g)
theorem directSays_holds:Rows.DirectSaysUptoCardSaid :=
 Claim7.holds_tied_plain_at .later [] _ _ _ _ said nofun zK nofun directSaysUpto_row_tie rfl ⟨rfl,rfl⟩ zK rfl plain zK
#print axioms directSays_holds
end Go.Proofs.YtbfohfjobncehaaGreatDoor
