/- For every net, voltaiclaw.DiodeSays returns true and leaves its argument as it was: diode.Check and diode.Solve answer, twice over, what the document's own laws say, worked out anew by the verifier's reference: the first state of the diodes that has just one answer and fits. The condition: the statement's second form (an argument whose bulk is at most 1048576); the package-level tables start as the program lays them. -/
import Derived.Test.YtbomdfhdocaagaaGreatDoorXPx
import Derived.Test.YtbomdfhdocaagaaGreatDoorXPy
namespace Go.Proofs.YtbomdfhdocaagaaGreatDoor
open Go.RowKit
set_option linter.all false
set_option maxHeartbeats 8000000
set_option maxRecDepth 10000
open Go.ChangeShapes Go.WideShapes Go.ChangeAt Go.RowKit Go.Joins Go.Deep
def tT {W:World} (h:laidMetH Tryz.prog Rows.diodeSaysUptoRow.laid W) {n:String} {d:DataW Unit} (a:(n,d)∈Rows.diodeSaysUptoRow.laid):Lib.VarReads Tryz.prog W n d:=by
 rw [MakeChecks.laidMetH_plain _ _ _ zK] at h;exact Lib.laidMet.reads h a
def tG {n:String} {d:DataW Unit} (i:Nat) (h:Rows.diodeSaysUptoRow.laid[i]? = some (n,d)):(n,d)∈Rows.diodeSaysUptoRow.laid:=List.mem_of_getElem? h
def AD:∀ {a:List aA} {p:aA},p∈a->p.v.size<=dV a
 | q :: a,p,h=>by
  have e:dV (q :: a)=q.v.size+dV a:=by simp [dV]
  rcases List.mem_cons.1 h with rfl | h
  ·omega
  ·have:=AD h;omega
def contract (H:Type) (enc:TypeId×Value->H) (W:World) (base:Nat) (args:Array Value) (ds B:List (DataW H)) (d:List MemPlace)
  (hval:∀ (j:Nat) t v,Tryz.f3.params[j]? = some t->args[j]? = some v->Value.okWide Tryz.prog W .any base t v)
  (hW:DataW.Whole enc Tryz.prog Tryz.f3.params.toList Rows.diodeSaysSpec.vars false W args.toList ds B d) (hcond:Rows.uptoSmall H (ds++B)=true) (hL:laidMetH Tryz.prog Rows.diodeSaysUptoRow.laid W) (hS:W.ShapedOpen Tryz.prog) :
  Calls Tryz.prog 3 args W fun e A=>∃ v,e=.returned v/\Rows.diodeSaysSpec.post enc Tryz.prog Tryz.f3 false true false false W args v A:=by
 have s:=hW;obtain ⟨p,q,y,hV,rfl,G,I⟩:=hW;have C:DataW.TrodAll enc Tryz.prog W 0 (fun _=>true) true Tryz.f3.params.toList args.toList ds p:=y;rw [Tryz.params3] at C hval;obtain ⟨v0,J,d0,K,L,q0,r,rfl,rfl,D,M⟩:=trodAll_cons C;obtain ⟨rfl,rfl,rfl⟩:=trodAll_nil M;obtain rfl:args=#[v0]:=by cases args;simp_all
 obtain ⟨rfl,rfl⟩:=trodVars_none hV;have k0:=D;have u:∀ x∈L,x.block<W.heap.size:=by obtain ⟨m,N⟩:=k0;exact DataW.trod_lt m _ _ _ N
 obtain ⟨c0,c1,y0,P,m,rfl,hd,E,z,k⟩:=open_agg2 Tryz.underlying24 zK C0 (hval 0 24 _ rfl rfl) D;obtain ⟨c,Q,R,_⟩:=DataW.trod_int Tryz.underlying3 z;obtain rfl:c0=.int .i64 c:=by simpa using Q
 have b:Rows.uptoBulk P.1<=1048576:=by
  have w:=of_decide_eq_true hcond;rw [hd] at w;simp only [List.append_nil,Rows.uptoBulkAll,Rows.uptoBulk] at w;omega
 obtain ⟨S,a,l,F,f⟩:=yD k b;obtain ⟨T,U,rfl,_⟩:=id a;obtain ⟨V,o⟩:=Tryz.laysM143.s1_3 W hS;have g:kn W:=⟨xZ (tT hL (tG 4 rfl)),⟨V,o⟩,World.block_lt_of_cell? W _ o⟩;refine (dio_any c T U S 2300000 W g (FZ (tT hL (tG 2 rfl))) (mark_of (tT hL (tG 5 rfl))) a l (by have:=BZ k b a;omega) f (fun p E=>by have:=AD E;omega) (fun n h=>by
  have w:=h.len;have Y:=h.hi;rw [qK];omega) O O).mono fun e A ⟨X,hg⟩=>?_
 subst X;have i:Below W.heap.size W A:=mG hg;exact ⟨_,rfl,_,_,_,[],_,[],s,trodAll_mk1 (shut_bool Tryz.underlying4 _),(trodAll_cons_mk (Below.trod DW zK (of_decide_eq_true zK) k0 i u) trodAll_mk0),rfl,i.frame _,fun h=>by cases h⟩
def qg (cs:Array Value):Obj->Obj
 | .cells _ t frozen=>.cells cs t frozen
 | o=>o
noncomputable def nC (os:Os):World :=
 { World.holding Tryz.prog os ⟨#[],#[],[]⟩ with heap:=((((((((World.holding Tryz.prog os ⟨#[],#[],[]⟩).heap.modify 6 (qg #[.int .u8 0,.int .u8 1,.int .u8 28,.int .u8 2,.int .u8 29,.int .u8 14,.int .u8 24,.int .u8 3,.int .u8 30,.int .u8 22,.int .u8 20,.int .u8 15,.int .u8 25,.int .u8 17,.int .u8 4,.int .u8 8,.int .u8 31,.int .u8 27,.int .u8 13,.int .u8 23,.int .u8 21,.int .u8 19,.int .u8 16,.int .u8 7,.int .u8 26,.int .u8 12,.int .u8 18,.int .u8 6,.int .u8 11,.int .u8 5,.int .u8 10,.int .u8 9])).modify 7 (qg #[.int .u8 0,.int .u8 1,.int .u8 56,.int .u8 2,.int .u8 57,.int .u8 49,.int .u8 28,.int .u8 3,.int .u8 61,.int .u8 58,.int .u8 42,.int .u8 50,.int .u8 38,.int .u8 29,.int .u8 17,.int .u8 4,.int .u8 62,.int .u8 47,.int .u8 59,.int .u8 36,.int .u8 45,.int .u8 43,.int .u8 51,.int .u8 22,.int .u8 53,.int .u8 39,.int .u8 33,.int .u8 30,.int .u8 24,.int .u8 18,.int .u8 12,.int .u8 5,.int .u8 63,.int .u8 55,.int .u8 48,.int .u8 27,.int .u8 60,.int .u8 41,.int .u8 37,.int .u8 16,.int .u8 46,.int .u8 35,.int .u8 44,.int .u8 21,.int .u8 52,.int .u8 32,.int .u8 23,.int .u8 11,.int .u8 54,.int .u8 26,.int .u8 40,.int .u8 15,.int .u8 34,.int .u8 20,.int .u8 31,.int .u8 10,.int .u8 25,.int .u8 14,.int .u8 19,.int .u8 9,.int .u8 13,.int .u8 8,.int .u8 7,.int .u8 6])).modify 5 (qg #[.int .u64 1,.int .u64 10,.int .u64 100,.int .u64 1000,.int .u64 10000,.int .u64 100000,.int .u64 1000000,.int .u64 10000000,.int .u64 100000000,.int .u64 1000000000,.int .u64 10000000000,.int .u64 100000000000,.int .u64 1000000000000,.int .u64 10000000000000,.int .u64 100000000000000,.int .u64 1000000000000000,.int .u64 10000000000000000,.int .u64 100000000000000000,.int .u64 1000000000000000000,.int .u64 10000000000000000000])).modify 4 (qg #[.int .u8 128,.int .u8 191,.int .u8 160,.int .u8 191,.int .u8 128,.int .u8 159,.int .u8 144,.int .u8 191,.int .u8 128,.int .u8 143,.int .u8 0,.int .u8 0,.int .u8 0,.int .u8 0,.int .u8 0,.int .u8 0,.int .u8 0,.int .u8 0,.int .u8 0,.int .u8 0,.int .u8 0,.int .u8 0,.int .u8 0,.int .u8 0,.int .u8 0,.int .u8 0,.int .u8 0,.int .u8 0,.int .u8 0,.int .u8 0,.int .u8 0,.int .u8 0])).modify 0 (qg #[.int .i64 (-9),.int .i64 0,.int .i64 0,.int .i64 0,.int .i64 0,.string ⟨#[109,97,114,107]⟩])).modify 1 (qg #[.string ⟨#[]⟩,.string ⟨#[]⟩,.bool false,.bool false,.bool false,.string ⟨#[82]⟩,.string ⟨#[206,169]⟩,.bool true,.bool true,.bool false,.string ⟨#[76]⟩,.string ⟨#[72]⟩,.bool true,.bool true,.bool false,.string ⟨#[67]⟩,.string ⟨#[70]⟩,.bool true,.bool true,.bool false,.string ⟨#[86]⟩,.string ⟨#[86]⟩,.bool true,.bool false,.bool false,.string ⟨#[73]⟩,.string ⟨#[65]⟩,.bool true,.bool false,.bool false,.string ⟨#[69]⟩,.string ⟨#[]⟩,.bool true,.bool false,.bool true,.string ⟨#[71]⟩,.string ⟨#[83]⟩,.bool true,.bool false,.bool true,.string ⟨#[68]⟩,.string ⟨#[]⟩,.bool false,.bool false,.bool false])).modify 3 (qg (Go.Pinned.utf8FirstZ.map fun z:Nat=>Value.int .u8 z).toArray)) }
def DZ (os:Os):laidMetH Tryz.prog Rows.diodeSaysUptoRow.laid ((nC os).forCall (fun _ _=>0) ⟨#[],#[.agg #[.int .i64 0,.slice none 0 0]],[]⟩).memory:=by
 rw [MakeChecks.laidMetH_plain _ _ _ zK];exact laidMet_of_run' 8 zK zK
def Cf (os:Os) {H:Type} (enc:TypeId×Value->H):∃ places,DataW.whole enc Tryz.prog ((nC os).forCall (fun _ _=>0) ⟨#[],#[.agg #[.int .i64 0,.slice none 0 0]],[]⟩).memory Tryz.f3.params.toList Rows.diodeSaysSpec.vars false (#[.agg #[.int .i64 0,.slice none 0 0]]:Array Value).toList 8=some ([.agg [.lit (.int .i64 0),.nil]],[],places) :=
 ⟨[],zK⟩
def lifted (os:Os) (a:os.Started) (H:Type) (enc:TypeId×Value->H) (F:Stop.Interp) :
  ReturnsInHanded {} Tryz.checked os 3 .any ((Rows.OpenSpec.upto Rows.diodeSaysSpec).preRow enc Tryz.prog Tryz.f3 Rows.diodeSaysUptoRow.domain false Rows.diodeSaysUptoRow.laid) (((Rows.OpenSpec.upto Rows.diodeSaysSpec).at F).post enc Tryz.prog Tryz.f3 false true false false):=by
 obtain ⟨e,i⟩:=Cf os enc;refine returnsInHanded_of_row (C:=Tryz.checked) (s:=Rows.OpenSpec.upto Rows.diodeSaysSpec) ownK a zK Tryz.func3
  (witness_row_at (enc:=enc) (C:=Tryz.checked) false (nC os) #[.agg #[.int .i64 0,.slice none 0 0]] rfl zK zK zK
   (OpenSpec.preRow_of_cond 8 i zK (fun k j=>by cases j;kernel_rfl) zK (DZ os))) ?_
 intro W base args ds f b d g _ c _ h hS _;exact contract H enc W base args ds f b d g (c _ rfl) h hS
def said:Rows.DiodeSaysUptoSaid :=
 OpenClaim.holds_of_cond 3 Tryz.f3 rfl rfl rfl rfl rfl rfl rfl ⟨rfl,rfl,rfl,rfl,rfl⟩ rfl rfl rfl rfl rfl zK Tryz.func3 zK
  (of_decide_eq_true zK) (by unfold Func.isWrapper;first | (rw [if_pos (by decide +kernel)];kernel_rfl) | (rw [if_neg (by decide +kernel)];exact ⟨rfl,rfl⟩))
  (fun os started H enc _ F=>by rw [OpenClaim.pre_eq_preRow];exact lifted os started H enc F)
def plain (f:FuncId) (b:Func) (e:Tryz.pinned.checked.prog.funcNamed "voltaic/voltaiclaw.DiodeSays" = some f) (c:Tryz.pinned.checked.prog.funcs[f]? = some b) :
  false=Tryz.pinned.checked.prog.looks []/\∀ (j:Nat) t,b.params[j]? = some t->Tryz.pinned.checked.prog.wantsStandIn t=false:=by
 obtain rfl:f=3:=zJ ((show Tryz.prog.funcNamed "voltaic/voltaiclaw.DiodeSays" = some 3 by kernel_rfl).symm.trans e) |>.symm
 obtain rfl:b=Tryz.f3:=(zJ (Tryz.func3.symm.trans c)).symm;refine ⟨zK,fun j t d=>?_⟩;rw [Tryz.params3] at d;have g:t∈[24]:=by simpa using Array.mem_of_getElem? d
 have a:([24].all fun u=>!Tryz.prog.wantsStandIn u)=true:=zK
 exact (show Tryz.prog.wantsStandIn t=false by simpa using List.all_eq_true.1 a t g)
theorem diodeSays_holds:Rows.DiodeSaysUptoCardSaid :=
 Claim7.holds_tied_plain_at .later [] _ _ _ _ said nofun zK nofun diodeSaysUpto_row_tie rfl ⟨rfl,rfl⟩ zK rfl plain zK
#print axioms diodeSays_holds
end Go.Proofs.YtbomdfhdocaagaaGreatDoor
