/- For every net, voltaiclaw.DiodeOne returns true and leaves its argument as it was: in all states of a net's diodes that have just one answer and fit, the same flows through each resistor as the program says. The condition: the statement's second form (an argument whose bulk is at most 1048576); the package-level tables start as the program lays them. -/
import Derived.Test.YtkbmbmdemajoaaaGreatDoorXPF
namespace Go.Proofs.YtkbmbmdemajoaaaGreatDoor
open Go.RowKit
set_option linter.unusedVariables false
set_option linter.unusedSimpArgs false
set_option maxHeartbeats 8000000
set_option maxRecDepth 10000
open Go.ChangeShapes Go.WideShapes Go.ChangeAt Go.RowKit Go.Joins Go.Deep
theorem zh {W:World} (h:laidMetH Tryz.prog Rows.diodeOneUptoRow.laid W) {n:String} {d:DataW Unit} (a:(n,d)∈Rows.diodeOneUptoRow.laid):Lib.VarReads Tryz.prog W n d:=by
 rw [MakeChecks.laidMetH_plain _ _ _ zK] at h;exact Lib.laidMet.reads h a
theorem yG {n:String} {d:DataW Unit} (i:Nat) (h:Rows.diodeOneUptoRow.laid[i]? = some (n,d)):(n,d)∈Rows.diodeOneUptoRow.laid:=List.mem_of_getElem? h
theorem zr:∀ {a:List aD} {p:aD},p∈a->p.v.size<=dO a
 | q :: a,p,h=>by
  have e:dO (q :: a)=q.v.size+dO a:=by simp [dO]
  rcases List.mem_cons.1 h with rfl | h
  ·omega
  ·have:=zr h;omega
theorem contract (H:Type) (enc:TypeId×Value->H) (W:World) (base:Nat) (args:Array Value) (ds A:List (DataW H)) (c:List MemPlace)
  (hval:∀ (j:Nat) t v,Tryz.f3.params[j]? = some t->args[j]? = some v->Value.okWide Tryz.prog W .any base t v)
  (hW:DataW.Whole enc Tryz.prog Tryz.f3.params.toList Rows.diodeOneSpec.vars false W args.toList ds A c) (hcond:Rows.uptoSmall H (ds++A)=true) (hL:laidMetH Tryz.prog Rows.diodeOneUptoRow.laid W) (hS:W.ShapedOpen Tryz.prog) :
  Calls Tryz.prog 3 args W fun e z=>∃ v,e=.returned v/\Rows.diodeOneSpec.post enc Tryz.prog Tryz.f3 false true false false W args v z:=by
 have o:=hW;obtain ⟨p,q,u,hV,rfl,G,I⟩:=hW;have B:DataW.TrodAll enc Tryz.prog W 0 (fun _=>true) true Tryz.f3.params.toList args.toList ds p:=u;rw [Tryz.params3] at B hval;obtain ⟨v0,J,d0,K,L,q0,k,rfl,rfl,C,M⟩:=trodAll_cons B;obtain ⟨rfl,rfl,rfl⟩:=trodAll_nil M;obtain rfl:args=#[v0]:=by cases args;simp_all
 obtain ⟨rfl,rfl⟩:=trodVars_none hV;have k0:=C;have r:∀ x∈L,x.block<W.heap.size:=by obtain ⟨m,N⟩:=k0;exact DataW.trod_lt m _ _ _ N
 obtain ⟨c0,c1,y0,P,m,rfl,hd,D,w,y⟩:=open_agg2 Tryz.underlying24 zK BV (hval 0 24 _ rfl rfl) C;obtain ⟨b,Q,R,_⟩:=DataW.trod_int Tryz.underlying3 w;obtain rfl:c0=.int .i64 b:=by simpa using Q
 have d:Rows.uptoBulk P.1<=1048576:=by
  have s:=of_decide_eq_true hcond;rw [hd] at s;simp only [List.append_nil,Rows.uptoBulkAll,Rows.uptoBulk] at s;omega
 obtain ⟨S,a,E,F,l⟩:=xO y d;obtain ⟨T,U,rfl,_⟩:=id a;obtain ⟨V,i⟩:=Tryz.laysM143.s1_3 W hS;have f:lJ W:=⟨xp (zh hL (yG 4 rfl)),⟨V,i⟩,World.block_lt_of_cell? W _ i⟩;refine (one_any b T U S 2300000 W f (Ew (zh hL (yG 2 rfl))) a (fun p D=>by have:=zr D;omega) (fun n h=>by
  have s:=h.len;have Y:=h.hi;rw [p9];omega) O O).mono fun e z ⟨X,hg⟩=>?_
 subst X;have g:Below W.heap.size W z:=lW hg;exact ⟨_,rfl,_,_,_,[],_,[],o,trodAll_mk1 (shut_bool Tryz.underlying4 _),(trodAll_cons_mk (Below.trod CS zK (of_decide_eq_true zK) k0 g r) trodAll_mk0),rfl,g.frame _,fun h=>by cases h⟩
def rq (cs:Array Value):Obj->Obj
 | .cells _ t frozen=>.cells cs t frozen
 | o=>o
noncomputable def mP (os:Os):World :=
 { World.holding Tryz.prog os ⟨#[],#[],[]⟩ with heap:=(((((((World.holding Tryz.prog os ⟨#[],#[],[]⟩).heap.modify 5 (rq #[.int .u8 0,.int .u8 1,.int .u8 28,.int .u8 2,.int .u8 29,.int .u8 14,.int .u8 24,.int .u8 3,.int .u8 30,.int .u8 22,.int .u8 20,.int .u8 15,.int .u8 25,.int .u8 17,.int .u8 4,.int .u8 8,.int .u8 31,.int .u8 27,.int .u8 13,.int .u8 23,.int .u8 21,.int .u8 19,.int .u8 16,.int .u8 7,.int .u8 26,.int .u8 12,.int .u8 18,.int .u8 6,.int .u8 11,.int .u8 5,.int .u8 10,.int .u8 9])).modify 6 (rq #[.int .u8 0,.int .u8 1,.int .u8 56,.int .u8 2,.int .u8 57,.int .u8 49,.int .u8 28,.int .u8 3,.int .u8 61,.int .u8 58,.int .u8 42,.int .u8 50,.int .u8 38,.int .u8 29,.int .u8 17,.int .u8 4,.int .u8 62,.int .u8 47,.int .u8 59,.int .u8 36,.int .u8 45,.int .u8 43,.int .u8 51,.int .u8 22,.int .u8 53,.int .u8 39,.int .u8 33,.int .u8 30,.int .u8 24,.int .u8 18,.int .u8 12,.int .u8 5,.int .u8 63,.int .u8 55,.int .u8 48,.int .u8 27,.int .u8 60,.int .u8 41,.int .u8 37,.int .u8 16,.int .u8 46,.int .u8 35,.int .u8 44,.int .u8 21,.int .u8 52,.int .u8 32,.int .u8 23,.int .u8 11,.int .u8 54,.int .u8 26,.int .u8 40,.int .u8 15,.int .u8 34,.int .u8 20,.int .u8 31,.int .u8 10,.int .u8 25,.int .u8 14,.int .u8 19,.int .u8 9,.int .u8 13,.int .u8 8,.int .u8 7,.int .u8 6])).modify 2 (rq #[.int .u64 1,.int .u64 10,.int .u64 100,.int .u64 1000,.int .u64 10000,.int .u64 100000,.int .u64 1000000,.int .u64 10000000,.int .u64 100000000,.int .u64 1000000000,.int .u64 10000000000,.int .u64 100000000000,.int .u64 1000000000000,.int .u64 10000000000000,.int .u64 100000000000000,.int .u64 1000000000000000,.int .u64 10000000000000000,.int .u64 100000000000000000,.int .u64 1000000000000000000,.int .u64 10000000000000000000])).modify 4 (rq #[.int .u8 128,.int .u8 191,.int .u8 160,.int .u8 191,.int .u8 128,.int .u8 159,.int .u8 144,.int .u8 191,.int .u8 128,.int .u8 143,.int .u8 0,.int .u8 0,.int .u8 0,.int .u8 0,.int .u8 0,.int .u8 0,.int .u8 0,.int .u8 0,.int .u8 0,.int .u8 0,.int .u8 0,.int .u8 0,.int .u8 0,.int .u8 0,.int .u8 0,.int .u8 0,.int .u8 0,.int .u8 0,.int .u8 0,.int .u8 0,.int .u8 0,.int .u8 0])).modify 0 (rq #[.string ⟨#[]⟩,.string ⟨#[]⟩,.bool false,.bool false,.bool false,.string ⟨#[82]⟩,.string ⟨#[206,169]⟩,.bool true,.bool true,.bool false,.string ⟨#[76]⟩,.string ⟨#[72]⟩,.bool true,.bool true,.bool false,.string ⟨#[67]⟩,.string ⟨#[70]⟩,.bool true,.bool true,.bool false,.string ⟨#[86]⟩,.string ⟨#[86]⟩,.bool true,.bool false,.bool false,.string ⟨#[73]⟩,.string ⟨#[65]⟩,.bool true,.bool false,.bool false,.string ⟨#[69]⟩,.string ⟨#[]⟩,.bool true,.bool false,.bool true,.string ⟨#[71]⟩,.string ⟨#[83]⟩,.bool true,.bool false,.bool true,.string ⟨#[68]⟩,.string ⟨#[]⟩,.bool false,.bool false,.bool false])).modify 3 (rq (Go.Pinned.utf8FirstZ.map fun z:Nat=>Value.int .u8 z).toArray)) }
theorem CT (os:Os):laidMetH Tryz.prog Rows.diodeOneUptoRow.laid ((mP os).forCall (fun _ _=>0) ⟨#[],#[.agg #[.int .i64 0,.slice none 0 0]],[]⟩).memory:=by
 rw [MakeChecks.laidMetH_plain _ _ _ zK];exact laidMet_of_run' 8 zK zK
theorem Be (os:Os) {H:Type} (enc:TypeId×Value->H):∃ places,DataW.whole enc Tryz.prog ((mP os).forCall (fun _ _=>0) ⟨#[],#[.agg #[.int .i64 0,.slice none 0 0]],[]⟩).memory Tryz.f3.params.toList Rows.diodeOneSpec.vars false (#[.agg #[.int .i64 0,.slice none 0 0]]:Array Value).toList 8=some ([.agg [.lit (.int .i64 0),.nil]],[],places) :=
 ⟨[],zK⟩
theorem lifted (os:Os) (a:os.Started) (H:Type) (enc:TypeId×Value->H) (F:Stop.Interp) :
  ReturnsInHanded {} Tryz.checked os 3 .any ((Rows.OpenSpec.upto Rows.diodeOneSpec).preRow enc Tryz.prog Tryz.f3 Rows.diodeOneUptoRow.domain false Rows.diodeOneUptoRow.laid) (((Rows.OpenSpec.upto Rows.diodeOneSpec).at F).post enc Tryz.prog Tryz.f3 false true false false):=by
 obtain ⟨e,i⟩:=Be os enc;refine returnsInHanded_of_row (C:=Tryz.checked) (s:=Rows.OpenSpec.upto Rows.diodeOneSpec) ownK a zK Tryz.func3
  (witness_row_at (enc:=enc) (C:=Tryz.checked) false (mP os) #[.agg #[.int .i64 0,.slice none 0 0]] rfl zK zK zK
   (OpenSpec.preRow_of_cond 8 i zK (fun k j=>by cases j;kernel_rfl) zK (CT os))) ?_
 intro W base args ds f b d g _ c _ h hS _;exact contract H enc W base args ds f b d g (c _ rfl) h hS
theorem said:Rows.DiodeOneUptoSaid :=
 OpenClaim.holds_of_cond 3 Tryz.f3 rfl rfl rfl rfl rfl rfl rfl ⟨rfl,rfl,rfl,rfl,rfl⟩ rfl rfl rfl rfl rfl zK Tryz.func3 zK
  (of_decide_eq_true zK) (by unfold Func.isWrapper;first | (rw [if_pos (by decide +kernel)];kernel_rfl) | (rw [if_neg (by decide +kernel)];exact ⟨rfl,rfl⟩))
  (fun os started H enc _ F=>by rw [OpenClaim.pre_eq_preRow];exact lifted os started H enc F)
theorem plain (f:FuncId) (b:Func) (e:Tryz.pinned.checked.prog.funcNamed "voltaic/voltaiclaw.DiodeOne" = some f) (c:Tryz.pinned.checked.prog.funcs[f]? = some b) :
  false=Tryz.pinned.checked.prog.looks []/\∀ (j:Nat) t,b.params[j]? = some t->Tryz.pinned.checked.prog.wantsStandIn t=false:=by
 obtain rfl:f=3:=zJ ((show Tryz.prog.funcNamed "voltaic/voltaiclaw.DiodeOne" = some 3 by kernel_rfl).symm.trans e) |>.symm
 obtain rfl:b=Tryz.f3:=(zJ (Tryz.func3.symm.trans c)).symm;refine ⟨zK,fun j t d=>?_⟩;rw [Tryz.params3] at d;have g:t∈[24]:=by simpa using Array.mem_of_getElem? d
 have a:([24].all fun u=>!Tryz.prog.wantsStandIn u)=true:=zK
 exact (show Tryz.prog.wantsStandIn t=false by simpa using List.all_eq_true.1 a t g)
theorem diodeOne_holds:Rows.DiodeOneUptoCardSaid :=
 Claim7.holds_tied_plain_at .later [] _ _ _ _ said nofun zK nofun diodeOneUpto_row_tie rfl ⟨rfl,rfl⟩ zK rfl plain zK
#print axioms diodeOne_holds
end Go.Proofs.YtkbmbmdemajoaaaGreatDoor
