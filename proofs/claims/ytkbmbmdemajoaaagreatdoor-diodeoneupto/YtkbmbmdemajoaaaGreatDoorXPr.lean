/- Contracts. -/
import Derived.RangeFuncWrites
import Derived.RangeFuncCalls
import Derived.OwnWalkIn
import Derived.TacticsInMore
import Derived.Test.YtkbmbmdemajoaaaGreatDoorXPu
import Derived.Test.YtkbmbmdemajoaaaGreatDoorXPq
namespace Go.Proofs.YtkbmbmdemajoaaaGreatDoor
open Go.RowKit
set_option linter.unusedVariables false
set_option linter.unusedSimpArgs false
set_option maxHeartbeats 8000000
set_option maxRecDepth 10000
attribute [local simp] bX im dR Pc6 nf
variable {w w':World} {ps:List aD} {nodes:Int} {x0 x1 x2 x3 x4 x5 x6 x7 x8 x9 x10 x11:Value} {on:Nat->Bool}
def nV (k:Nat):Value:=.int .i64 k
def bu (ps:List aD) (i:Nat):List Nat:=(List.range i).filter fun j=>decide ((ps[j]?.map aD.kind)=some 8)
theorem mL (ps:List aD) (i:Nat) (h:i<ps.length):bu ps (i+1)=if ps[i].kind=8 then bu ps i++[i] else bu ps i:=by
 unfold bu;rw [List.range_succ,List.filter_append];by_cases e:ps[i].kind=8
 ·rw [if_pos e];simp [zX h,e]
 ·rw [if_neg e];simp [zX h,e]
theorem pg (ps:List aD) (i:Nat):(bu ps i).length<=i:=by
 have:=List.length_filter_le (fun j=>decide ((ps[j]?.map aD.kind)=some 8)) (List.range i);rw [List.length_range] at this;exact this
def StaAt (w:World) (fv:Value) (n:Nat) (po:Option Addr) (pc:Nat) (ps:List aD):Prop :=
 ∃ (gd gn:Nat) (v:Value),fv=.func (.func 37) #[] #[.pointer (some ⟨gd,0,none⟩),.pointer (some ⟨gn,0,none⟩)]/\w.cell? ⟨gd,0,none⟩=some v/\mH nV w v (bu ps ps.length)/\dR w gn (.int .i64 (n:Nat)) (.slice po ps.length pc)
def StR (W:World) (ps:List aD) (iv:Value) (wr:World):Prop :=
 ∃ (i:Nat) (v:Value),i<=ps.length/\iv=.int .i64 i/\lI wr W.heap.size 97 v/\cW nV 3 wr (W.heap.size+1) v (bu ps i)/\W.grownBy wr none
theorem Tryz.infoIntD:(Tryz.prog.info? 3).map (fun i=>(i.zero,i.size,i.bytes))=some (some (.int .i64 0),1,8):=zK
theorem Bo (n:Nat) (o:Option Addr) (q:Nat) (ps:List aD) (w:World) (s:aR w (.slice o ps.length q) ps) (hn:ps.length<=1000) :
  Calls Tryz.prog 17 #[.agg #[.int .i64 (n:Nat),.slice o ps.length q]] w fun e w'=>∃ fv,e=.returned fv/\StaAt w' fv n o q ps/\w.grownBy w' none:=by
 have V:=ab s;clear s;obtain ⟨W,E⟩:=eX (w.alloc (Obj.cells #[.int .i64 (n:Nat),.slice o ps.length q] 24));have I:Hid (w.grownBy W none):=by rw [E];exact ag (ae _ _) _
 have J:Hid (∀ wx,W.grownBy wx none->dR wx w.heap.size (.int .i64 (n:Nat)) (.slice o ps.length q)):=by
  intro wx hg;exact dR.k0 (w:=W) (by rw [E];exact ⟨zG,zG⟩) hg
 go_enter Tryz.func17,Tryz.ntmps17
 go_upto_region 1 with fail;rw [<- E];clear E;go_upto_region 2 with fail;obtain ⟨G,f⟩:=eX (W.alloc (Obj.cells #[.slice none 0 0] 97));have K:Hid (W.grownBy G none):=by rw [f];exact ag (ae _ _) _
 have X:Hid (lI G W.heap.size 97 (.slice none 0 0)):=by rw [f];exact heap_alloc_new W _
 rw [<- f];clear f;have z:=J.out G K;go_wp2;go_loopw [9] (fun iv wr=>Hid (StR W ps iv wr)) (fun iv _=>ps.length-(intOf iv).toNat)
 case atStart=>exact ⟨0,_,O,rfl,X,me,K⟩
 case round =>
  obtain ⟨i,v,hi,rfl,F,Q,R⟩:=hrel.out;have L:=ab F;have t:=ab Q;have u:=ab R;clear F Q R hrel z;have z:=J.out wr u;have A:=L.out.cells;by_cases hlt:i<ps.length
  ·obtain ⟨b,off,rfl,rc,H⟩:=V.out.row (aa I u) hlt;have j:=ab (mL ps i hlt);obtain ⟨p,s⟩:=eX (ps[i]);rw [<- s] at rc j;clear s H;go_upto_region 5 with fail;obtain ⟨gp,m⟩:=eX wr.heap.size;obtain ⟨y,g⟩:=eX (wr.alloc (Obj.cells #[.int .i64 p.kind,.int .i64 p.a,.int .i64 p.b,.int .i64 p.c,.int .i64 p.d,.string p.v] 45));have B:Hid (wr.grownBy y none):=by rw [g];exact ag (ae _ _) _
   have Y:Hid (nf y gp p):=by rw [m];exact gJ wr p 45 (by rw [g];exact ae _ _)
   rw [<- g,<- m];clear g m rc z A;obtain ⟨S,F,b2,b3,b4,b5⟩:=Y.out;have C:=ab (L.keep B Z);have M:=ab (t.keep0 B);have A:=C.out.cells;by_cases D:p.kind=8
   ·have k:Hid (bu ps (i+1)=bu ps i++[i]):=by rw [j,if_pos D];exact ab rfl
    have he:=pg ps i;obtain ⟨T,U,rfl⟩:=t.out.shape;rw [D] at S;clear D;go_wp2_with (at_builtin;refine nS nV 3 (.int .i64 0) 8 _ rfl _ _ 97 rfl (W.heap.size+1) Tryz.underlying97 Tryz.infoIntD rfl (.slice T (bu ps i).length U) (bu ps i) rfl (M.keep0 (ag (ae _ _) _)) y.heap.size i rfl (by go_simp;rfl) rfl O O (by have:=C.out.lt;simp;omega) ?_)
    intro ao x w5 h l;have HN:Hid (some W.heap.size≠(Value.slice T (bu ps i).length U).ownBlock):=fun e=>by have:=(t.fresh _ e.symm).1;omega
    have N:=ab ((C.keep (ag (ae y none) _) Z).keep l HN);have O6:=ab h;have G6:Hid (W.grownBy w5 none):=by
     refine aw (r:=none) (aa (aa u B) (ag (ae y none) _)) l (fun _ _ e=>e) (fun b hb e=>?_);have:=(t.fresh b e.symm).1;omega
    have P:=ab (N.set (.slice ao ((bu ps i).length+1) x));obtain ⟨q0,q1⟩:=N.out.cells;clear h l A S F b2 b3 b4 b5;go_wp2;go_roundw
    case rel=>exact ⟨i+1,_,O,zN,P.1,by rw [k];exact O6.keepB P.2.1 O,ah G6 _ _ zL⟩
    case measure=>simp [intOf];omega
   ·have k:Hid (bu ps (i+1)=bu ps i):=by rw [j,if_neg D];exact ab rfl
    go_wp2;go_roundw
    case rel=>exact ⟨i+1,v,O,zN,C,by rw [k];exact M,aa u B⟩
    case measure=>simp [intOf];omega
  ·obtain rfl:ps.length=i:=O
   go_wp2;go_ret;exact ⟨_,rfl,⟨_,_,v,rfl,A.1,t.row,z⟩,aa I u⟩
open Go Go.RowKit
def rndPost (n0:Nat) (I:Nat->World->Prop) (Ix:World->Prop) (k:Nat) (W:World):Exit->Act->World->Prop
 | .normal,_,W'=>KeepsOthers W W'/\Below n0 W W'/\I (k+1) W'
 | .ret,_,W'=>KeepsOthers W W'/\Ix W'
 | _,_,_=>False
theorem Bb {P:Program} {F:Fence} {n:Nat} {g:Operand} {p:Tmp} {assign body:Code} {Q:Exit->Act->World->Prop} {a:Act} (hro:F.round=none) (h1:1<=n)
  {gf:Nat} {lb:Array Value} (hg:a.eval g=.func (.func gf) #[] lb) (hFg:F.fn gf) (eg:∀ args w,(callFunc gf args).run P w=.ok (.enter gf args) w)
  (Hd:Nat->Value->World->Prop) (hHd:∀ k x A B row,Hd k x A->A.grownBy B row->(∀ r,row=some r->∃ o:Obj,A.heap[r]? = some o/\o.isCells=false)->Hd k x B) (N n0:Nat) (hn0:n0<=w.heap.size)
  (hseq:∀ (l:Nat) (J:Nat->World->Prop) (Jx:World->Prop) (W:World),w.grownBy W none->(∀ k A B,J k A->A.grownBy B none->J k B) ->
   (∀ k x W1,J k W1->Hd k x W1->k<N->YieldAt F (n-1-1) P l #[x] W1 fun e W'=>(e=.returned (.bool true)/\J (k+1) W'/\Below n0 W1 W')∨(e=.returned (.bool false)/\Jx W'))->J 0 W ->
   CallsIn F (n-1) P gf (#[.func (.yield l) #[] #[]]++lb) W fun e W'=>(∃ v,e=.returned v)/\(J N W'∨Jx W'))
  (I:Nat->World->Prop) (Ix:World->Prop) (hI:∀ k A B row,I k A->A.grownBy B row->(∀ r,row=some r->w.heap.size<=r)->I k B) (hIx:∀ A B row,Ix A->A.grownBy B row->(∀ r,row=some r->w.heap.size<=r/\∃ o:Obj,A.heap[r]? = some o/\o.isCells=false)->Ix B)
  (h0:I 0 w) (a₁:Value->Act)
  (hassign:∀ (l k:Nat) (x:Value) (W:World) (K:Act->World->Prop),Hd k x W->K (a₁ x) W->assign.wpIn (F.inRound l) (n-1-1) P (Exit.then K (fun _ _ _=>False)) { tmps:=a.tmps.setIfInBounds p x,defers:=[] } W)
  (hbody:∀ (l k:Nat) (x:Value) (W:World),I k W->Hd k x W->k<N->body.wpIn (F.inRound l) (n-1-1) P (rndPost n0 I Ix k W) (a₁ x) W)
  (hdone:∀ (D:Nat) (W:World),w.heap.size<=D->I N W->W.heap[D]? = some (.deferred (some []))->Q .normal { a with defers:={ target:=.collected D,args:=#[] } :: a.defers } W)
  (hstop:∀ (D:Nat) (W:World),w.heap.size<=D->Ix W->W.heap[D]? = some (.deferred (some []))->Code.ret.wpIn F n P Q { a with defers:={ target:=.collected D,args:=#[] } :: a.defers } W) :
  (Code.rangeFunc g #[p] assign body).wpIn F n P Q a w:=by
 refine wpIn_rangeFunc fun fn hfn=>?_
 rw [hro];obtain ⟨rc,hrc⟩:∃ rc:LoopState->Option Code->Loop,rc=fun st pe=>{ state:=st,pending:=pe,fn,tmps:=a.tmps,params:=#[p],assign,body,defers:=w.heap.size }:=⟨_,rfl⟩
 obtain ⟨W1,hW1⟩:=eX ((w.alloc (.deferred (some []))).alloc (.loop (rc .ready none)));have g1:w.grownBy W1 none:=by rw [hW1];exact ag (ag (ae _ _) _) _
 have l1:W1.heap[w.heap.size+1]? = some (.loop (rc .ready none)):=by
  have:=World.alloc_heap_new (w.alloc (.deferred (some []))) (.loop (rc .ready none));rw [World.size_alloc] at this;rw [hW1];exact this
 have d1:W1.heap[w.heap.size]? = some (.deferred (some [])):=by
  rw [hW1];exact (Below.heap_alloc _ _ _ Z).trans (World.alloc_heap_new w _)
 have aJ:∀ {W:World} {l:Nat} (o:Obj),W.grownBy (W.putObj l o) (some l):=fun o=>grownBy_putObj' _ _ o
 refine ⟨w.heap.size+1,[{ target:=.collected w.heap.size,args:=#[] }],W1,{ target:=.fn (.func gf) lb,args:=#[.func (.yield (w.heap.size+1)) #[] #[]] },W1,gf,#[.func (.yield (w.heap.size+1)) #[] #[]]++lb,W1,?_,?_,?_,?_,fun _=>h1,?_⟩
 ·rw [hW1,hrc];exact run_enterLoop_outer ..
 ·simp only [resolve,hg];simp [go_sem]
 ·intro f' hf';simp [Target.leads] at hf';subst hf';exact hFg
 ·simp [invoke,go_sem,eg]
 ·refine (hseq (w.heap.size+1) (fun k W=>I k W/\W.heap[w.heap.size+1]? = some (.loop (rc .ready none))/\W.heap[w.heap.size]? = some (.deferred (some [])))
   (fun W=>Ix W/\W.heap[w.heap.size+1]? = some (.loop (rc .done (some .ret)))/\W.heap[w.heap.size]? = some (.deferred (some []))) W1 g1 ?_ ?_ ⟨hI _ _ _ none h0 g1 nofun,l1,d1⟩).mono ?_
  ·rintro k A B ⟨i1,i2,i3⟩ hg;exact ⟨hI k A B none i1 hg nofun,(hg.block _ (zZ i2).1 Z).trans i2,(hg.block _ (zZ i3).1 Z).trans i3⟩
  ·rintro k x W ⟨i1,i2,i3⟩ hd hk;have hlt:=(zZ i2).1;have hy:=run_yield (P:=P) (args:=#[x]) i2 (by rw [hrc];rfl);rw [hrc] at hy;refine ⟨fn,_,assign,body,hy,roundIn_of_wpIn hfn ?_⟩;have e0:((#[p]:Array Tmp).zip #[x]).foldl (fun tmps (t,a)=>tmps.setIfInBounds t a) a.tmps=a.tmps.setIfInBounds p x:=Z
   show assign.wpIn _ _ _ _ { tmps:=((#[p]:Array Tmp).zip #[x]).foldl (fun tmps (t,a)=>tmps.setIfInBounds t a) a.tmps,defers:=[] } _
   rw [e0];refine hassign _ k x W _ hd ⟨_,run_beginRound i2 (by rw [hrc]),?_⟩;obtain ⟨W2,hW2⟩:=eX (W.putObj (w.heap.size+1) (.loop { rc .ready none with state:=.busy }));have g2:W.grownBy W2 (some (w.heap.size+1)):=by rw [hW2];exact aJ _
   have l2:W2.heap[w.heap.size+1]? = some (.loop { rc .ready none with state:=.busy }):=by rw [hW2];exact World.putObj_heap_same hlt
   have d2:W2.heap[w.heap.size]? = some (.deferred (some [])):=by rw [hW2];exact (World.putObj_heap_other O).trans i3
   have j2:I k W2:=hI _ _ _ _ i1 g2 (fun r e=>by cases e;omega);have h2:Hd k x W2:=hHd _ _ _ _ _ hd g2 (fun r e=>by cases e;exact ⟨_,i2,rfl⟩);have b2:Below n0 W W2:=(Below.refl n0 W).grown g2 O (fun r e=>by cases e;omega);rw [<- hW2];refine wpIn_mono (hbody _ k x W2 j2 h2 hk) ?_;have fin:∀ (jp:Option Code) (W3:World),KeepsOthers W2 W3->(Instr.endRound (w.heap.size+1) jp).run P W3=.ok (.bool jp.isNone) (W3.putObj (w.heap.size+1) (.loop (rc (if jp.isNone then .ready else .done) jp)))
     /\ W3.heap[w.heap.size+1]? = some (.loop { rc .ready none with state:=.busy })/\(W3.putObj (w.heap.size+1) (.loop (rc (if jp.isNone then .ready else .done) jp))).heap[w.heap.size+1]? = some (.loop (rc (if jp.isNone then .ready else .done) jp))
     /\ (W3.putObj (w.heap.size+1) (.loop (rc (if jp.isNone then .ready else .done) jp))).heap[w.heap.size]? = some (.deferred (some [])):=by
    intro jp W3 k3;have l3:=k3.same _ _ l2 rfl;have e:=run_endRound (P:=P) jp l3;rw [hrc] at e l3 ⊢;exact ⟨e,l3,World.putObj_heap_same (zZ l3).1,(World.putObj_heap_other O).trans (k3.same _ _ d2 rfl)⟩
   rintro e a3 W3 hp;cases e with
   | normal =>
    obtain ⟨k3,b3,i3'⟩:=hp;obtain ⟨r,l3,l4,d4⟩:=fin none W3 k3;refine ⟨_,_,r,.inl ⟨rfl,⟨hI _ _ _ _ i3' (aJ _) (fun r e=>by cases e;omega),l4,d4⟩,(b2.trans b3).trans ?_⟩⟩;have:=(zZ l3).1;exact (Below.refl n0 W3).grown (aJ _) O (fun r e=>by cases e;omega)
   | ret =>
    obtain ⟨k3,i3'⟩:=hp;obtain ⟨r,l3,l4,d4⟩:=fin (some .ret) W3 k3;exact ⟨_,_,r,.inr ⟨rfl,hIx _ _ _ i3' (aJ _) (fun r e=>by cases e;exact ⟨O,_,l3,rfl⟩),l4,d4⟩⟩
   | exit id=>exact hp.elim
   | goto t=>exact hp.elim
   | panic ch=>exact hp.elim
   | outgrown=>exact hp.elim
  ·rintro e W2 ⟨⟨v,rfl⟩,⟨i1,i2,i3⟩ | ⟨i1,i2,i3⟩⟩
   ·exact ⟨none,_,by have:=run_endLoop (P:=P) i2 (by rw [hrc];simp);rw [hrc] at this;exact this,hdone _ _ zL (hI _ _ _ _ i1 (aJ _) (fun r e=>by cases e;omega)) ((World.putObj_heap_other O).trans i3)⟩
   ·exact ⟨some .ret,_,by have:=run_endLoop (P:=P) i2 (by rw [hrc];simp);rw [hrc] at this;exact this,hstop _ _ zL (hIx _ _ _ i1 (aJ _) (fun r e=>by cases e;exact ⟨O,_,i2,rfl⟩)) ((World.putObj_heap_other O).trans i3)⟩
open Go Go.RowKit
attribute [local simp] bX im dR
def iY (ps:List aD) (k i:Nat):Bool:=decide ((ps[i]?.map aD.kind)=some 8) && Nat.testBit k (bu ps i).length
def onJ (ps:List aD) (k j i:Nat):Bool:=decide ((ps[i]?.map aD.kind)=some 8) && decide ((bu ps i).length<j) && Nat.testBit k (bu ps i).length
def mU (ps:List aD) (k j:Nat):List Bool:=(List.range ps.length).map (onJ ps k j)
theorem Ds (ps:List aD) (k i:Nat):onJ ps k 0 i=false:=by simp [onJ]
theorem qR (ps:List aD) (n:Nat):bu ps (n+1)=bu ps n++(if (ps[n]?.map aD.kind)=some 8 then [n] else []):=by
 unfold bu;rw [List.range_succ,List.filter_append,List.filter_cons,List.filter_nil];congr 1
 by_cases c:(ps[n]?.map aD.kind)=some 8
 ·rw [if_pos c,if_pos (decide_eq_true c)]
 ·rw [if_neg c,if_neg (by rw [decide_eq_false c];simp)]
theorem sF (ps:List aD):∀ n i,i<n->(ps[i]?.map aD.kind)=some 8->(bu ps i).length<(bu ps n).length:=by
 intro n;induction n with
 | zero=>intro i h;omega
 | succ n ih =>
  intro i h a;have e:=qR ps n;by_cases hi:i=n
  ·subst hi;rw [e,if_pos a,List.length_append];simp
  ·have:=ih i O a;rw [e,List.length_append];omega
theorem onJ_all (ps:List aD) (k i:Nat) (h:i<ps.length):onJ ps k (bu ps ps.length).length i=iY ps k i:=by
 unfold onJ iY;by_cases c:(ps[i]?.map aD.kind)=some 8
 ·rw [decide_eq_true (sF ps ps.length i h c)];simp
 ·simp [c]
theorem yy (ps:List aD):∀ n j p,(bu ps n)[j]? = some p->p<n/\(ps[p]?.map aD.kind)=some 8/\(bu ps p).length=j:=by
 intro n;induction n with
 | zero=>intro j p h;simp [bu] at h
 | succ n ih =>
  intro j p h;have e:=qR ps n;rw [e] at h;by_cases f:j<(bu ps n).length
  ·rw [List.getElem?_append_left f] at h;obtain ⟨a,b,c⟩:=ih j p h;exact ⟨O,b,c⟩
  ·rw [List.getElem?_append_right O] at h;by_cases c:(ps[n]?.map aD.kind)=some 8
   ·rw [if_pos c] at h;have d:j-(bu ps n).length=0:=by
     rcases zP (j-(bu ps n).length) with d | d
     ·exact d
     ·rw [List.getElem?_eq_none (by rw [List.length_singleton];omega)] at h;cases h
    rw [d] at h;simp at h;subst h;exact ⟨O,c,O⟩
   ·rw [if_neg c] at h;simp at h
theorem sV (ps:List aD) (k j:Nat):(mU ps k j).length=ps.length:=by simp [mU]
theorem Dv (ps:List aD) (k:Nat):List.replicate ps.length false=mU ps k 0:=by
 apply List.ext_getElem
 ·simp [mU]
 ·intro i a b;simp [mU,Ds]
theorem Du {k j p:Nat} (h:(bu ps ps.length)[j]? = some p):(mU ps k j).set p (Nat.testBit k j)=mU ps k (j+1):=by
 obtain ⟨o,d,g⟩:=yy ps _ j p h;apply List.ext_getElem
 ·simp [mU]
 ·intro i m b;rw [List.getElem_set];have l:i<ps.length:=by rw [sV] at b;exact b
  by_cases e:p=i
  ·subst e;rw [if_pos rfl];simp [mU,onJ,d,g]
  ·rw [if_neg e];simp only [mU,List.getElem_map,List.getElem_range,onJ];by_cases c:(ps[i]?.map aD.kind)=some 8
   ·have f:(bu ps i).length≠j:=by
     intro n;rcases Nat.lt_or_ge i p with a | a
     ·have:=sF ps p i a c;omega
     ·have:=sF ps i p O d;omega
    have:decide ((bu ps i).length<j)=decide ((bu ps i).length<j+1):=by
     rw [decide_eq_decide];omega
    rw [this]
   ·simp [c]
theorem CO (n:Int):bits .and .i64 n 1=n % 2:=by
 have b:(BitVec.ofInt 64 1).toNat=2^1-1:=zD
 have a:(BitVec.ofInt 64 n &&& BitVec.ofInt 64 1).toNat=(n % ((2^64:Nat):Int)).toNat % 2^1:=by
  rw [BitVec.toNat_and,BitVec.toNat_ofInt,b,Nat.and_two_pow_sub_one_eq_mod]
 show IntKind.i64.wrap ((BitVec.ofInt 64 n &&& BitVec.ofInt 64 1).toNat:Nat)=n % 2
 rw [a,IntKind.wrap_i64];omega
theorem tN (row j:Nat):bits .and .i64 ((row:Int) / 2^j) 1=((row / 2^j % 2:Nat):Int):=by
 rw [CO,Int.natCast_emod,Int.natCast_ediv,Int.natCast_pow];rfl
theorem tO (k j:Nat):((((k / 2^j % 2:Nat):Int))==1)=Nat.testBit k j:=by
 rw [Nat.testBit_eq_decide_div_mod_eq];have h:=Nat.mod_two_eq_zero_or_one (k / 2^j);rcases h with h | h<;>rw [h]<;>rfl
def wE (ps:List aD) (k:Nat) (x:Value) (W:World):Prop:=∃ g,x=.slice (some ⟨g,0,none⟩) ps.length ps.length/\∀ i,i<ps.length->W.cell? ⟨g,i,none⟩=some (.bool (iY ps k i))
def ItR (ps:List aD) (J:Nat->World->Prop) (w:World) (N:Nat) (iv:Value) (wr:World):Prop:=∃ k:Nat,k<=N/\iv=.int .i64 k/\J k wr/\Below w.heap.size w wr
def InR (ps:List aD) (g k d:Nat) (W:World) (iv:Value) (wr:World):Prop:=∃ j:Nat,j<=d/\iv=.int .i64 j/\BArr wr g (mU ps k j)/\W.grownBy wr none
theorem vN (l m n K G:Nat) (po:Option Addr) (pc:Nat) (ps:List aD) (v:Value) (J:Nat->World->Prop) (Jx:World->Prop) (w W:World) (hc:w.cell? ⟨K,0,none⟩=some v) (hr:mH nV w v (bu ps ps.length)) (hn:dR w G (.int .i64 (n:Nat)) (.slice po ps.length pc))
  (hd:(bu ps ps.length).length<=6) (hl:ps.length<=16) (hg:w.grownBy W none) (hJ:∀ k A B,J k A->A.grownBy B none->J k B)
  (hY:∀ k x W1,J k W1->wE ps k x W1->k<2^(bu ps ps.length).length->YieldAt Fence.wide m Tryz.prog l #[x] W1 fun e t=>(e=.returned (.bool true)/\J (k+1) t/\Below w.heap.size W1 t)∨(e=.returned (.bool false)/\Jx t)) (h0:J 0 W) :
  Calls Tryz.prog 37 #[.func (.yield l) #[] #[],.pointer (some ⟨K,0,none⟩),.pointer (some ⟨G,0,none⟩)] W fun e t=>(∃ v,e=.returned v)/\(J (2^(bu ps ps.length).length) t∨Jx t):=by
 have L:=ab hc;have HR:=ab hr;have H:=ab hn;have HJ:=ab hJ;have HY:=ab hY;have H0:=ab h0;have M:=ab hg;obtain ⟨ao,cap,rfl,X,Y,a⟩:=hr;have HK:Hid (∀ j,j<(bu ps ps.length).length->∃ p b off,(bu ps ps.length)[j]? = some p/\ao=some ⟨b,off,none⟩/\b<w.heap.size/\w.cell? ⟨b,off+j,none⟩=some (.int .i64 (p:Nat))):=by
  intro j r;obtain ⟨b,off,e,hb,c⟩:=a j r;exact ⟨_,b,off,zX r,e,hb,c⟩
 unfold maxLen at Y;clear hc hn hJ hY h0 hg a;have c0:=M.out.cell L Z;obtain ⟨n0,n1⟩:=H.out.k0 M;obtain ⟨d,hd0⟩:=eX ((bu ps ps.length).length);have P:=ab hd0;obtain ⟨N,s⟩:=eX (2^d);have ho:=ab s;have he:N<=64:=by
  have h6:2^d<=2^6:=Nat.pow_le_pow_right O O;rw [s];omega
 have hw:wrap64 (2^d:Int)=(N:Int):=by
  rw [show (2:Int)^d=(N:Int) by rw [s];simp];unfold wrap64;omega
 rw [<- hd0] at hd c0 X;rw [<- hd0,<- s] at HY;rw [<- hd0] at HK;rw [<- hd0,<- s];clear hd0 s;go_enter Tryz.func37,Tryz.ntmps37
 go_upto_region 1 with fail;rw [hw];go_loopw [11] (fun iv wr=>Hid (ItR ps J w N iv wr)) (fun iv _=>N-(intOf iv).toNat)
 case atStart=>exact ⟨0,O,rfl,H0,(Below.refl _ _).grown M zL nofun⟩
 case round =>
  obtain ⟨k,hk,rfl,r,hb⟩:=hrel.out;have JK:=ab r;have q:=ab hb;clear r hb hrel n0 n1 c0;have Q:=bZ L;have u:=bZ H.1;have c0:=(q.cell (p:=⟨K,0,none⟩) Q).trans L;have n0:=(q.cell (p:=⟨G,0,none⟩) u).trans H.1;have n1:=(q.cell (p:=⟨G,1,none⟩) u).trans H.2;by_cases hlt:k<N
  ·go_wp2_with (at_make;refine dY bv 4 false 1 _ rfl _ _ 29 rfl Tryz.underlying29 Tryz.infoBool rfl _ _ _ _ ps.length rfl rfl rfl rfl O O ?_)
   intro w1 ha g1;obtain ⟨g,hg⟩:=eX wr.heap.size;rw [<- hg] at ha ⊢;have A1:Hid (BArr w1 g (mU ps k 0)):=by rw [<- Dv];exact ha
   have R:=ab g1;have y:wr.heap.size<=g:=Nat.le_of_eq hg.symm;have S:=ab y;clear ha g1 hg y;have c1:=R.out.cell c0 Z;go_wp2;go_loopw [20] (fun iv w2=>Hid (InR ps g k d wr iv w2)) (fun iv _=>d-(intOf iv).toNat)
   case atStart=>exact ⟨0,O,rfl,A1,R⟩
   case round =>
    obtain ⟨j,r,rfl,ha,E⟩:=hrel.out;have T:=ab ha;have z:=ab E;have lg:=ha.lt;have o:=ha.free;clear ha E hrel c1 A1 R n0 n1;have c2:=z.out.cell c0 Z;clear c0;by_cases U:j<d
    ·obtain ⟨p,b,off,e1,e2,hb,cb⟩:=HK.out j U;cases e2
     obtain ⟨p1,p2,p3⟩:=yy ps _ j p e1;have E1:=ab e1;have C:=(q.cell (p:=⟨b,off+j,none⟩) hb).trans cb;have hp:=z.out.cell C Z;obtain ⟨v0,hs⟩:∃ v,World.cell? _ ⟨g,p,none⟩=some v:=⟨_,T.cell p (by rw [sV];exact p1)⟩;have hq:=o p;clear e1 p2 p3 cb C hb o;rw [<- P] at c2 ⊢;go_wp2;go_roundw
     case rel =>
      refine ⟨j+1,O,zN,?_,ah z _ _ S⟩;have:=T.out.set p (Nat.testBit k j) (.bool (Nat.testBit k j)) rfl;rw [Du E1] at this;rw [<- tO,<- tN] at this;exact this
     case measure=>simp [intOf];omega
    ·have V:j=d:=O
     rw [<- P];go_upto_region 9 with fail;have hd0:wE ps k (.slice (some ⟨g,0,none⟩) ps.length ps.length) wr:=by
      refine ⟨g,rfl,fun i hi=>?_⟩;have h:=T.out.cell i (by rw [sV];exact hi);rw [h];have e:=onJ_all ps k i hi;rw [<- P,<- V] at e;simp only [mU,List.getElem_map,List.getElem_range];rw [e]
     have jk:=HJ.out k _ _ JK z;have bk:Below w.heap.size w wr:=q.out.grown z q.size nofun;have BK:=ab bk;obtain ⟨fn,hf,I,hm,hy,hR⟩:=HY.out k _ wr jk hd0 hlt;clear bk jk hd0 lg o c2;refine (wpIn_wide (n:=m+1)).1 ?_;gi_wp2
     refine hR.mono ?_;rintro e W3 (⟨rfl,F,a⟩ | ⟨rfl,f⟩)
     ·have J3:=ab F;have B3:=ab (BK.trans a);clear F a;gi_wp2
      go_wp2;go_roundw
      case rel=>exact ⟨k+1,O,zN,J3,B3⟩
      case measure=>simp [intOf];omega
     ·have X3:=ab f;clear f;gi_wp2
      go_wp2;refine ⟨rfl,.tuple #[],by simp [results,Tryz.results37,go_sem],⟨_,rfl⟩,.inr X3⟩
  ·have D:k=N:=O
   rw [<- D];have JN:=JK;rw [D] at JN;go_wp2;refine ⟨rfl,.tuple #[],by simp [results,Tryz.results37,go_sem],⟨_,rfl⟩,.inl JN⟩
attribute [local simp] Pc6 nf
def bO:List aD->Nat->Nat->Int×Int
 | [],_,_=>(0,0)
 | p :: r,i,c=>if p.kind=2∨p.kind=3∨p.kind=6∨p.kind=7 then (3,(i:Int)) else if p.kind=8 then (if 6<c+1 then (2,(i:Int)) else bO r (i+1) (c+1)) else bO r (i+1) c
def bL (nodes:Int) (ps:List aD):Int×Int:=if (iG nodes ps).1=0 then bO ps 0 0 else iG nodes ps
def DcR (W:World) (ps:List aD) (cv iv:Value) (wr:World):Prop:=∃ i c:Nat,i<=ps.length/\c<=6/\cv=.int .i64 c/\iv=.int .i64 i/\bO (ps.drop i) i c=bO ps 0 0/\W.grownBy wr none
theorem qN (nodes:Int) (z:Option Addr) (A:Nat) (ps:List aD) (w:World) (hb:lJ w) (q:aR w (.slice z ps.length A) ps) :
  Calls Tryz.prog 15 #[.agg #[.int .i64 nodes,.slice z ps.length A]] w fun e w'=>e=.returned (.agg #[.int .i64 (bL nodes ps).1,.int .i64 (bL nodes ps).2])/\w.grownBy w' none:=by
 have S:ps.length<=9223372036854775807:=by obtain ⟨_,_,_,h1,h2,_⟩:=id q;unfold maxLen at h2;omega
 have HB:=ab hb;have T:=ab q;clear hb q;obtain ⟨C,L⟩:=eX (bL nodes ps);have U:=ab L;rw [<- L];clear L;obtain ⟨W,F⟩:=eX ((w.alloc (Obj.cells #[.int .i64 nodes,.slice z ps.length A] 24)).alloc (Obj.cells #[.int .i64 0,.int .i64 0] 32));have m:Hid (w.grownBy W none):=by rw [F];exact ag (ag (ae _ _) _) _
 have B:Hid (∀ wr:World,W.grownBy wr none->wr.cell? ⟨w.heap.size+1,0,none⟩=some (.int .i64 0)/\wr.cell? ⟨w.heap.size+1,1,none⟩=some (.int .i64 0)/\(∀ i,wr.frozen? ⟨w.heap.size+1,i,none⟩=false)/\wr.cell? ⟨w.heap.size,0,none⟩=some (.int .i64 nodes)/\wr.cell? ⟨w.heap.size,1,none⟩=some (.slice z ps.length A)):=by
  intro wr hg;rw [F] at hg;have:=te hg;exact ⟨by simpa using this.1,by simpa using this.2.1,by simpa using this.2.2,hg.cell zG Z,hg.cell zG Z⟩
 go_enter Tryz.func15,Tryz.ntmps15
 go_upto_region 1 with fail;rw [<- F];clear F;have n0:=(B W (ae _ _)).2.2.2;go_wp2_with fail;refine (BD nodes _ ps W (HB.keep m) (T.keep m)).mono ?_;obtain ⟨l,r,M⟩:∃ l r,iG nodes ps=(l,r):=⟨_,_,rfl⟩;unfold wH;rw [M];rintro e w1 ⟨rfl,X⟩;have s:=ab M;clear M;go_upto_region 2 with fail;obtain ⟨G,g⟩:=eX (w1.alloc (Obj.cells #[.int .i64 l,.int .i64 r] 32));have n:Hid (W.grownBy G none):=by rw [g];exact ag X _
 have s0:G.cell? ⟨w1.heap.size,0,none⟩=some (.int .i64 l):=by rw [g];go_simp
 have s1:G.cell? ⟨w1.heap.size,1,none⟩=some (.int .i64 r):=by rw [g];go_simp
 rw [<- g];obtain ⟨o,r1,N,n1⟩:=B.out G n;have H:=N 0;have I:=N 1;clear X n0 g N;by_cases D:l=0
 ·have t:Hid (bO ps 0 0=C):=by rw [U];unfold bL;rw [s];exact ab (if_pos D).symm
  subst D;go_upto_region 5 with fail;go_wp2;go_loopw [4,16] (fun cv iv wr=>Hid (DcR W ps cv iv wr)) (fun _ iv _=>ps.length-(intOf iv).toNat)
  case atStart=>exact ⟨0,0,O,O,rfl,rfl,rfl,n⟩
  case round =>
   obtain ⟨i,c,hi,hc,rfl,rfl,Y,hg⟩:=hrel.out;have V:=ab Y;have E:=ab hg;clear Y hg hrel n1 o r1 H I s0 s1;have n1:=B.out wr E;have u:=n1.2.2.1 0;have x:=n1.2.2.1 1;by_cases hlt:i<ps.length
   ·obtain ⟨b,off,rfl,rc,P⟩:=T.out.row (aa m E) hlt;have y:Hid (bO (ps[i] :: ps.drop (i+1)) i c=bO ps 0 0):=by rw [<- List.drop_eq_getElem_cons hlt];exact V
    obtain ⟨p,q⟩:=eX (ps[i]);rw [<- q] at rc y;clear q P;have J:p.kind=2∨p.kind=3∨p.kind=6∨p.kind=7∨(p.kind=8/\¬ (p.kind=2∨p.kind=3∨p.kind=6∨p.kind=7))∨(¬ p.kind=8/\¬ (p.kind=2∨p.kind=3∨p.kind=6∨p.kind=7)):=O
    go_upto_region 8 with fail;obtain ⟨Q,k⟩:=eX (wr.alloc (Obj.cells #[.int .i64 p.kind,.int .i64 p.a,.int .i64 p.b,.int .i64 p.c,.int .i64 p.d,.string p.v] 45));have f:Hid (W.grownBy Q none):=by rw [k];exact ag E _
    have pb:nf Q wr.heap.size p:=gJ wr p 45 (by rw [k];exact ae _ _);rw [<- k];clear k rc n1 u x;have n1:=B.out Q f;have u:=n1.2.2.1 0;have x:=n1.2.2.1 1;obtain ⟨o,r1,_,m0,m1⟩:=n1;obtain ⟨R,b1,b2,b3,b4,b5⟩:=pb;rcases J with h | h | h | h | ⟨h,hn⟩ | ⟨h,hn⟩
    case inl | inr.inl | inr.inr.inl | inr.inr.inr.inl =>
     have j:Hid (C=(3,(i:Int))):=by
      show _=_
      rw [<- t,<- y,bO,if_pos O]
     rw [h] at R;go_wp2;refine bodyPost_ret (v:=.agg #[.int .i64 3,.int .i64 i]) (by simp [results,Tryz.results15,go_sem,o,r1]) rfl ⟨by rw [j],ah (ah (aa m f) _ _ Z) _ _ Z⟩
    ·by_cases h6:c=6
     ·have j:Hid (C=(2,(i:Int))):=by
       show _=_
       rw [<- t,<- y,bO,if_neg hn,if_pos h,if_pos O]
      rw [h] at R;subst h6;go_wp2;refine bodyPost_ret (v:=.agg #[.int .i64 2,.int .i64 i]) (by simp [results,Tryz.results15,go_sem,o,r1]) rfl ⟨by rw [j],ah (ah (aa m f) _ _ Z) _ _ Z⟩
     ·have j:Hid (bO (ps.drop (i+1)) (i+1) (c+1)=bO ps 0 0):=by
       show _=_
       rw [<- y,bO,if_neg hn,if_pos h,if_neg O]
      have K:¬ (6:Int)<(c:Int)+1:=O
      rw [h] at R;go_wp2;go_roundw
      case rel=>exact ⟨i+1,c+1,O,O,zN,zN,j,f⟩
      case measure=>simp [intOf];omega
    ·have j:Hid (bO (ps.drop (i+1)) (i+1) c=bO ps 0 0):=by
      show _=_
      rw [<- y,bO,if_neg hn,if_neg h]
     have he:¬ p.kind=2:=fun e=>hn (.inl e)
     have hf:¬ p.kind=3:=fun e=>hn (.inr (.inl e))
     have hj:¬ p.kind=6:=fun e=>hn (.inr (.inr (.inl e)))
     have hl:¬ p.kind=7:=fun e=>hn (.inr (.inr (.inr e)))
     have K:¬ (6:Int)<(c:Int):=O
     clear hn;go_wp2;go_roundw
     case rel=>exact ⟨i+1,c,O,O,rfl,zN,j,f⟩
     case measure=>simp [intOf];omega
   ·obtain ⟨o,r1,_,m0,m1⟩:=n1;have j:Hid (C=(0,0)):=by
     show _=_
     rw [<- t,<- V,List.drop_eq_nil_of_le O];rfl
    go_wp2;refine bodyPost_ret (v:=.agg #[.int .i64 0,.int .i64 0]) (by simp [results,Tryz.results15,go_sem,o,r1]) rfl ⟨by rw [j],ah (ah (aa m E) _ _ Z) _ _ Z⟩
 ·have t:Hid ((l,r)=C):=by rw [U];unfold bL;rw [s];exact ab (if_neg D).symm
  have hd:(l != 0)=true:=by simpa using D
  go_wp2;refine bodyPost_ret (v:=.agg #[.int .i64 l,.int .i64 r]) (by simp [results,Tryz.results15,go_sem,o,r1]) rfl ⟨by rw [<- t],ah (ah (aa m n) _ _ Z) _ _ Z⟩
open Go Go.RowKit
theorem nt : ∀ {ps:List aD} {i:Nat},(dS nodes ps i).1=0->∀ p∈ps,gD p nodes=0
 | [],_,_,p,hp=>by cases hp
 | q :: r,i,h,p,hp=>by
  by_cases hq:gD q nodes=0
  ·rw [dS,if_pos hq] at h;rcases List.mem_cons.1 hp with rfl | hp
   ·exact hq
   ·exact nt h p hp
  ·rw [dS,if_neg hq] at h;exact absurd h hq
theorem lk:∀ {ps:List aD} {i c:Nat},(bO ps i c).1=0->(∀ p∈ps,¬ (p.kind=2∨p.kind=3∨p.kind=6∨p.kind=7))/\(c<=6->c+(ps.filter fun p=>decide (p.kind=8)).length<=6)
 | [],_,_,_=>⟨fun p hp=>(by cases hp),fun h=>h⟩
 | p :: r,i,c,h=>by
  unfold bO at h;split at h
  ·simp at h
  ·rename_i h1;split at h
   ·rename_i h8;split at h
    ·simp at h
    ·rename_i hc;obtain ⟨a,b⟩:=lk h;refine ⟨fun q hq=>?_,fun _=>?_⟩
     ·rcases List.mem_cons.1 hq with rfl | hq
      ·exact h1
      ·exact a q hq
     ·have:=b O;rw [List.filter_cons,if_pos (by simpa using h8),List.length_cons];omega
   ·rename_i h8;obtain ⟨a,b⟩:=lk h;refine ⟨fun q hq=>?_,fun hc=>?_⟩
    ·rcases List.mem_cons.1 hq with rfl | hq
     ·exact h1
     ·exact a q hq
    ·have:=b hc;rw [List.filter_cons,if_neg (by simpa using h8)];exact this
theorem Cj (ps:List aD):∀ n,n<=ps.length->(bu ps n).length=((ps.take n).filter fun p=>decide (p.kind=8)).length:=by
 intro n;induction n with
 | zero=>intro _;simp [bu]
 | succ n ih =>
  intro h;have e:=ih O;have hn:n<ps.length:=O
  unfold bu at e ⊢;rw [List.range_succ,List.filter_append,List.length_append,e,List.take_add_one,List.filter_append,List.length_append,zX hn];congr 1
  by_cases c:ps[n].kind=8
  ·simp [zX hn,c]
  ·simp [zX hn,c]
theorem ofR_nil:fy []=0:=by unfold fy;decide
theorem uX {v:ByteArray} (h:¬ rP v<=0):0<fy v.data.toList:=by
 unfold rP at h;rw [Dr] at h;generalize fy v.data.toList=q at h ⊢;unfold mq at h;by_cases hb:rB q=true
 ·rw [if_pos hb] at h;exact absurd zD h
 ·rw [if_neg hb] at h;by_cases a:rN q=0
  ·rw [if_pos a] at h;exact absurd zD h
  ·unfold rB at hb;unfold rN at a;have b:0<=q:=Rat.num_nonneg.1 (by
    have c:¬ (q.num<0):=fun hh=>hb (decide_eq_true hh)
    omega)
   rcases Rat.le_iff_lt_or_eq.1 b with h | h
   ·exact h
   ·rw [<- h] at a;exact absurd rfl a
theorem dio_of {p:aD} (h:gD p nodes=0) (l:¬ (p.kind=2∨p.kind=3∨p.kind=6∨p.kind=7)) :
  wJ p/\iV p.a nodes=true/\iV p.b nodes=true/\p.c=0/\p.d=0:=by
 unfold gD at h;split at h
 ·exact absurd h zD
 ·rename_i m;unfold lH at h;split at h
  ·exact absurd h zD
  ·rename_i f;split at h
   ·exact absurd h zD
   ·rename_i j;split at h
    ·exact absurd h zD
    ·rename_i g;have k:lu p.kind.toNat=false:=by
      have:p.kind=1∨p.kind=4∨p.kind=5∨p.kind=8:=O
      rcases this with e | e | e | e<;>rw [e]<;>rfl
     rw [k] at f g;simp only [Bool.or_eq_true,Bool.and_eq_true,Bool.not_eq_true',not_or,not_and,Bool.not_eq_false,decide_eq_true_eq,bne_iff_ne,ne_eq,Decidable.not_not] at f j g;refine ⟨?_,f.1.1,f.1.2,g.1 trivial⟩;have:p.kind=1∨p.kind=4∨p.kind=5∨p.kind=8:=O
     rcases this with e | e | e | e
     ·exact .inl ⟨e,uX (j (by rw [e];rfl))⟩
     ·exact .inr (.inl e)
     ·exact .inr (.inr (.inl e))
     ·refine .inr (.inr (.inr ⟨e,?_⟩));have i:=g.2 (by rw [e];rfl);unfold aD.q;rw [List.isEmpty_iff] at i;rw [i];exact ofR_nil
theorem qS (h:(bL nodes ps).1=0):cD nodes.toNat ps/\nodes=(nodes.toNat:Int)/\ps.length<=16/\(∀ p∈ps,wJ p)/\(bu ps ps.length).length<=6:=by
 unfold bL at h;split at h
 ·rename_i hc;unfold iG at hc;split at hc
  ·exact absurd hc zD
  ·rename_i l;obtain ⟨s1,s2⟩:=lk h;have e:=fun p f=>dio_of (nt hc p f) (s1 p f)
   refine ⟨⟨O,O,O,fun p f=>?_⟩,O,O,fun p f=>(e p f).1,?_⟩
   ·obtain ⟨_,ha,hb,hc,hd⟩:=e p f;have g:∀ x,iV x nodes=true->0<=x/\x<nodes:=by
     intro x i;unfold iV at i;rw [Bool.and_eq_true,decide_eq_true_eq,decide_eq_true_eq] at i;exact i
    have j:=g _ ha;have k:=g _ hb;exact ⟨p.a.toNat,p.b.toNat,p.c.toNat,p.d.toNat,O,O,O,O,O,O,O,O⟩
   ·rw [Cj ps _ zL,List.take_length];have:=s2 O;omega
 ·rename_i hc;exact absurd h hc
theorem qv (h:(bL nodes ps).1=0):bL nodes ps=(0,0):=by
 have a:∀ (qs:List aD) (i c:Nat),(bO qs i c).1=0->bO qs i c=(0,0):=by
  intro qs;induction qs with
  | nil=>intro i c _;rfl
  | cons p r ih =>
   intro i c h;unfold bO at h ⊢;split at h
   ·simp at h
   ·rename_i d;rw [if_neg d];split at h
    ·rename_i b;rw [if_pos b];split at h
     ·simp at h
     ·rename_i hc;rw [if_neg hc];exact ih _ _ h
    ·rename_i b;rw [if_neg b];exact ih _ _ h
 unfold bL at h ⊢;split at h
 ·rename_i hc;rw [if_pos hc];exact a _ _ _ h
 ·rename_i hc;exact absurd h hc
theorem bU.keepR {base b:Nat} {v:Value} {k:Nat} {R:Nat->Rat} {L:Nat} (h:bU w base v k R L) (hg:aI w w' b) (hb:v.ownBlock≠some b):bU w' base v k R L:=by
 have i:=h.fresh;obtain ⟨xs,j,l,m⟩:=h;refine ⟨xs,⟨j.1,?_⟩,fun k f=>(l k f).keep (i k f).2 hg.1 (fun e=>hb (by rw [f,e])),m.kept hg.2⟩;rcases j.2 with h | ⟨g,cap,a,rfl,c,d,rest⟩
 ·exact .inl h
 ·exact .inr ⟨g,cap,a,rfl,c,by rw [hg.1.block g (i g rfl).2 (fun e=>hb (by rw [<- e];rfl))];exact d,rest⟩
def tm (w:World) (g o:Nat):List Value->World
 | []=>w
 | y :: ys=>tm (w.setCell ⟨g,o,none⟩ y) g (o+1) ys
def lF (xs:List Value) (o:Nat):List Value->List Value
 | []=>xs
 | y :: ys=>lF (xs.set o y) (o+1) ys
theorem pX (ys:List Value):∀ (xs:List Value) (o:Nat),(lF xs o ys).length=xs.length:=by
 induction ys with
 | nil=>intro xs o;rfl
 | cons y ys ih=>intro xs o;rw [lF,ih,List.length_set]
theorem Bk (ys:List Value):∀ (xs:List Value) (o m:Nat),(lF xs o ys).take m=lF (xs.take m) o ys:=by
 induction ys with
 | nil=>intro xs o m;rfl
 | cons y ys ih=>intro xs o m;rw [lF,lF,ih,List.take_set]
theorem je (ys:List Value):∀ (xs:List Value) (o j:Nat),o+ys.length<=xs.length->(lF xs o ys)[j]? = if o<=j/\j<o+ys.length then ys[j-o]? else xs[j]?:=by
 induction ys with
 | nil=>intro xs o j _;rw [lF,if_neg (by rw [List.length_nil];omega)]
 | cons y ys ih =>
  intro xs o j h;rw [List.length_cons] at h;rw [lF,ih _ _ _ (by rw [List.length_set];omega),List.length_cons];by_cases b:j=o
  ·subst b;rw [if_neg O,if_pos O,List.getElem?_set_self O,Nat.sub_self];rfl
  ·by_cases a:o<=j/\j<o+(ys.length+1)
   ·rw [if_pos O,if_pos a,show j-o=(j-(o+1))+1 by omega,List.getElem?_cons_succ]
   ·rw [if_neg O,if_neg a,List.getElem?_set_ne O]
theorem El (ys:List Value):∀ (xs:List Value) (o:Nat) (u:Value),u∈lF xs o ys->u∈xs∨u∈ys:=by
 induction ys with
 | nil=>intro xs o u h;exact .inl h
 | cons y ys ih =>
  intro xs o u h;rcases ih _ _ _ h with h | h
  ·rcases List.mem_or_eq_of_mem_set h with h | rfl
   ·exact .inl h
   ·exact .inr (List.mem_cons_self ..)
  ·exact .inr (List.mem_cons_of_mem _ h)
theorem rM (g:Nat) (T:TypeId) (ys:List Value):∀ (w:World) (o:Nat) (cur:Array Value),w.heap[g]? = some (.cells cur T (0,0))->(∀ u∈cur.toList,∀ x:Nat,u≠.int .u32 (x:Nat))->(∀ u∈ys,∀ x:Nat,u≠.int .u32 (x:Nat)) ->
  aI w (tm w g o ys) g/\(tm w g o ys).heap[g]? = some (.cells (lF cur.toList o ys).toArray T (0,0)):=by
 induction ys with
 | nil=>intro w o cur h _ _;exact ⟨aI.refl _ _,by simpa [tm,lF] using h⟩
 | cons y ys ih =>
  intro w o cur h hn hy;have f:=heap_setCell_same w g o cur T y h;have d:∀ u∈(cur.setIfInBounds o y).toList,∀ x:Nat,u≠.int .u32 (x:Nat):=by
   intro u c;rw [Array.toList_setIfInBounds] at c;rcases List.mem_or_eq_of_mem_set c with c | rfl
   ·exact hn u c
   ·exact hy _ (List.mem_cons_self ..)
  obtain ⟨a,b⟩:=ih _ (o+1) _ f d (fun u c=>hy u (List.mem_cons_of_mem _ c));refine ⟨(aI.set h (fun x e=>?_) y).trans a,?_⟩
  ·rw [<- Array.getElem?_toList] at e;exact hn _ (List.mem_of_getElem? e) x rfl
  ·rw [tm,b,Array.toList_setIfInBounds,lF]
def yR (R:Nat->Rat) (i:Nat) (S:Nat->Rat):Nat->Rat:=fun j=>if i*4<=j/\j<i*4+4 then S (j-i*4) else R j
theorem bU.put {base g cap k:Nat} {R S:Nat->Rat} {L:Nat} {ys:List Value} (h:bU w base (.slice (some ⟨g,0,none⟩) k cap) k R L) (hy:fg w ys 4 S L) {i:Nat} (hi:i<k):bU (tm w g (i*12) ys) base (.slice (some ⟨g,0,none⟩) k cap) k (yR R i S) L/\aI w (tm w g (i*12) ys) g:=by
 obtain ⟨xs,C,H,m⟩:=h;rcases C.2 with ⟨e,_⟩ | ⟨J,D,n,e,o,hg,p,r,s,c⟩
 ·simp at e
 ·simp only [Value.slice.injEq,zI,Addr.mk.injEq,true_and,and_true] at e;obtain ⟨rfl,rfl⟩:=e;have f:=(H g rfl).all hg;have l:=fun u hu=>(hy.mem u hu).2
  obtain ⟨a,b⟩:=rM g _ ys w (i*12) n hg f l;have F:ys.length=12:=hy.1;have G:xs.length=k*12:=by have:=m.1;omega
  refine ⟨⟨lF xs (i*12) ys,⟨by rw [pX];exact C.1,.inr ⟨g,cap,_,rfl,o,b,p,r,by rw [List.size_toArray,pX,Array.length_toList];exact s,by rw [Bk,c]⟩⟩,fun q E=>?_,?_,fun j I=>?_⟩,a⟩
  ·simp only [Value.ownBlock,zI] at E;subst E;refine wL.cells b (fun u hu=>?_);rcases El _ _ _ _ hu with hu | hu
   ·exact f u hu
   ·exact l u hu
  ·rw [pX];exact m.1
  ·unfold yR;by_cases hc:i*4<=j/\j<i*4+4
   ·rw [if_pos hc];obtain ⟨t,v,x,d,y,z,c0,c1,A,B⟩:=hy.2 (j-i*4) O;refine ⟨t,v,x,d,y,z,?_,?_,?_,B.kept a.2⟩
    ·rw [je _ _ _ _ O,if_pos O,show j*3-i*12=(j-i*4)*3 by omega];exact c0
    ·rw [je _ _ _ _ O,if_pos O,show j*3+1-i*12=(j-i*4)*3+1 by omega];exact c1
    ·rw [je _ _ _ _ O,if_pos O,show j*3+2-i*12=(j-i*4)*3+2 by omega];exact A
   ·rw [if_neg hc];obtain ⟨t,v,x,d,y,z,c0,c1,A,B⟩:=m.2 j I;refine ⟨t,v,x,d,y,z,?_,?_,?_,B.kept a.2⟩
    ·rw [je _ _ _ _ O,if_neg O];exact c0
    ·rw [je _ _ _ _ O,if_neg O];exact c1
    ·rw [je _ _ _ _ O,if_neg O];exact A
theorem tE {P:Program} {W:World} {b:Array Oper} {rest:List Oper} {o:Oper} {a:Act} {Q:Exit->Act->World->Prop} {v0 v1 d:Value}
  (hg:o.guard=none) (s x:Operand) (t:TypeId) (ho:o.op=.call { callee:=.builtin .append,args:=#[s,x],argTypes:=#[t,t] }) (hs:a.eval s=v0) (hx:a.eval x=v1) (hr:(Builtin.append_ #[t,t] o.type #[v0,v1]).run P W=.ok d w')
  (hK:wpList P b Q rest (a.put o.dst d) w'):wpList P b Q (o :: rest) a W:=by
 refine wpList_plain hg fun _ c=>?_
 unfold Oper.wp execOp;simp only [ho,resolve,invoke,builtin,Sem.run_bind,Sem.run_pure,Result.andThen_ok,List.map_toArray,List.map_cons,List.map_nil,hs,hx,hr];exact c _ _ hK
theorem xD (J:Nat) (v:Value) (k:Nat) (R:Nat->Rat) (L:Nat) (w:World) (h:bU w J v k R L) (hn:k=0->v=.slice none 0 0) (hk:k<=1000) :
  Calls Tryz.prog 35 #[v] w fun e w'=>∃ v',e=.returned v'/\bU w' w.heap.size v' k R L/\w.grownBy w' none:=by
 obtain ⟨xs,s,T,t⟩:=h;rcases s.2 with ⟨rfl,rfl⟩ | ⟨g,cap,U,rfl,V,hg,X,y,z,d⟩
 ·have K:∀ W,(binOp .eql 93 (.slice none 0 0) (.slice none 0 0)).run Tryz.prog W=.ok (.bool true) W:=fun W=>Lib.run_eql_slice_nil W _ _ none _ _ 0 0 Tryz.underlying93
  go_enter Tryz.func35,Tryz.ntmps35
  go_wp2;go_ret;exact ⟨_,rfl,rA,ae _ _⟩
 ·have a:∀ j u,xs[j]? = some u->w.cell? ⟨g,j,none⟩=some u:=by
   intro j u i;have l:=(zY i).1;rw [<- d,List.getElem?_take,if_pos (by rw [s.1] at l;omega),Array.getElem?_toList] at i;simp only [World.cell?,hg];exact i
  have m:0<k:=by
   rcases zP k with A | A
   ·exact absurd (hn A) Z
   ·exact A
  have M:=ab a;have N:=ab t;have G:=ab (fun u f=>(t.mem u f));have n:=y;unfold maxLen at n;clear T t a hg d z;obtain ⟨Y,hi,B,C,D⟩:=info_parts Tryz.infoLaw;have K:∀ W,(binOp .eql 93 (.slice (some ⟨g,0,none⟩) k cap) (.slice none 0 0)).run Tryz.prog W=.ok (.bool false) W:=fun W=>Lib.run_eql_slice_nil W _ _ (some _) _ _ 0 0 Tryz.underlying93
  have o:∃ v' w',(Builtin.append_ #[93,93] 93 #[.slice (some ⟨w.heap.size,0,none⟩) 0 0,.slice (some ⟨g,0,none⟩) k cap]).run Tryz.prog (w.alloc (Obj.cells #[] 92))=.ok v' w'/\bU w' w.heap.size v' k R L/\w.grownBy w' none:=by
   have p:w.grownBy (w.alloc (Obj.cells #[] 92)) none:=ag (ae _ _) _;obtain ⟨v',w',E,a2,a3,a4,a5⟩:=kh (P:=Tryz.prog) (w.alloc (Obj.cells #[] 92)) w.heap.size 93 93 92 Y _ 12 224 Tryz.underlying93 hi B C D rfl zD
    (fun j x i=>by
     have hc:j=0∨j=1∨j=2∨j=3∨j=4∨j=5∨j=6∨j=7∨j=8∨j=9∨j=10∨j=11:=O
     rcases hc with rfl | rfl | rfl | rfl | rfl | rfl | rfl | rfl | rfl | rfl | rfl | rfl<;>(intro e;cases e))
    (.slice (some ⟨w.heap.size,0,none⟩) 0 0) 0 [] (World.ownsRow_made w #[] 0 zL (by unfold maxLen;omega) Z) (fun q I=>by
     simp only [Value.ownBlock,zI] at I;subst I;exact wL.cells (heap_alloc_new w _) (fun u f=>by simp at f)) (fun u f=>by simp at f) ⟨g,0,none⟩ k cap xs s.1 m (fun j u i=>by rw [show (⟨g,0,none⟩:Addr).add j=⟨g,j,none⟩ from by unfold Addr.add;by_cases h:j=0<;>simp [h]];exact p.cell (M j u i) Z) (fun u f=>(G u f).1) (fun u f=>(G u f).2) (by unfold maxLen;omega) O Z
   refine ⟨v',w',E,⟨xs,by simpa using a2,a4,N.kept ((aL.of_gr p).trans a5)⟩,aw (r:=none) p a3 (fun _ _ e=>e) (fun b hb e=>?_)⟩;simp only [Value.ownBlock,zI] at e;omega
  obtain ⟨v',w',E,F,H⟩:=o;have Q:=ab F;have S:=ab H;obtain ⟨ao,c,rfl⟩:=F.shape;clear F H;go_enter Tryz.func35,Tryz.ntmps35
  go_wp2_with (at_builtin;refine tE rfl _ _ 93 rfl rfl rfl E ?_)
  go_wp2;go_ret;exact ⟨_,rfl,Q,S⟩
attribute [local simp] iD bX im dR Pc6 nf
abbrev kX (w:World) (g:Nat) (x0 x1 x2 x3 x4 x5 x6 x7 x8 x9 x10 x11:Value):Prop:=bX w g x0 x1 x2/\(w.cell? ⟨g,3,none⟩=some x3/\w.cell? ⟨g,4,none⟩=some x4/\w.cell? ⟨g,5,none⟩=some x5)/\(w.cell? ⟨g,6,none⟩=some x6/\w.cell? ⟨g,7,none⟩=some x7/\w.cell? ⟨g,8,none⟩=some x8)/\(w.cell? ⟨g,9,none⟩=some x9/\w.cell? ⟨g,10,none⟩=some x10/\w.cell? ⟨g,11,none⟩=some x11)
theorem kX.k0 {g:Nat} (h:kX w g x0 x1 x2 x3 x4 x5 x6 x7 x8 x9 x10 x11) (k:w.grownBy w' none):kX w' g x0 x1 x2 x3 x4 x5 x6 x7 x8 x9 x10 x11:=by
 obtain ⟨⟨c,d,e⟩,⟨f,i,j⟩,⟨l,m,n⟩,o,a,b⟩:=h;exact ⟨⟨k.cell c Z,k.cell d Z,k.cell e Z⟩,⟨k.cell f Z,k.cell i Z,k.cell j Z⟩,⟨k.cell l Z,k.cell m Z,k.cell n Z⟩,k.cell o Z,k.cell a Z,k.cell b Z⟩
theorem lZ {w0:World} {T:TypeId} (k:(w0.alloc (Obj.cells #[x0,x1,x2,x3,x4,x5,x6,x7,x8,x9,x10,x11] T)).grownBy w none):kX w w0.heap.size x0 x1 x2 x3 x4 x5 x6 x7 x8 x9 x10 x11 :=
 kX.k0 (w:=w0.alloc _) ⟨⟨zG,zG,zG⟩,⟨zG,zG,zG⟩,⟨zG,zG,zG⟩,zG,zG,zG⟩ k
theorem ru {w0:World} {o:Obj} {T:TypeId} (k:((w0.alloc o).alloc (Obj.cells #[x0,x1,x2,x3,x4,x5,x6,x7,x8,x9,x10,x11] T)).grownBy w none):kX w (w0.heap.size+1) x0 x1 x2 x3 x4 x5 x6 x7 x8 x9 x10 x11:=by
 have h:=lZ k;rw [World.size_alloc] at h;exact h
theorem yJ {g:Nat} {T:TypeId} (h:w.heap[g]? = some (Obj.cells #[x0,x1,x2,x3,x4,x5,x6,x7,x8,x9,x10,x11] T (0,0))):kX w g x0 x1 x2 x3 x4 x5 x6 x7 x8 x9 x10 x11:=by
 simp [kX,bX,World.cell?,h]
theorem laws_at (h:Bool) (i b:Option Addr) (fl fc d f:Nat) (w:World) :
  Calls Tryz.prog 33 #[(jP h (.slice i fl fc) (.slice b d f)),.agg #[.bool false,.slice none 0 0,.slice none 0 0]] w fun e w' =>
   ∃ bf bop bs bz:Nat,e=.returned (.func (.func 69) #[] #[.pointer (some ⟨bf,0,none⟩),.pointer (some ⟨bop,0,none⟩),.pointer (some ⟨bs,0,none⟩)])/\(bX w' bf (.bool h) (.slice i fl fc) (.slice b d f)/\iD w' bf)
    /\ w'.cell? ⟨bop,0,none⟩=some (.func (.func 68) #[] #[.pointer (some ⟨bf,0,none⟩),.pointer (some ⟨bz,0,none⟩)])/\bX w' bs (.bool false) (.slice none 0 0) (.slice none 0 0)/\bX w' bz (.bool false) (.slice none 0 0) (.slice none 0 0)/\w.grownBy w' none:=by
 obtain ⟨W,g⟩:=eX (((w.alloc (Obj.cells #[.bool h,.slice i fl fc,.slice b d f,.func (.func 60) #[] #[],.func (.func 61) #[] #[],.func (.func 62) #[] #[],.func (.func 63) #[] #[],.func (.func 64) #[] #[],.func (.func 65) #[] #[],.func (.func 66) #[] #[],.func (.func 67) #[] #[]] 87)).alloc (Obj.cells #[.bool false,.slice none 0 0,.slice none 0 0] 81)).alloc (Obj.cells #[.bool false,.slice none 0 0,.slice none 0 0] 81));have j:Hid (w.grownBy W none):=by rw [g];exact ag (ag (ag (ae _ _) _) _) _
 have k:W.heap.size=w.heap.size+3:=by rw [g];simp
 have l:Hid (∀ wx,W.grownBy wx none->(bX wx w.heap.size (.bool h) (.slice i fl fc) (.slice b d f)/\iD wx w.heap.size)/\bX wx (w.heap.size+1) (.bool false) (.slice none 0 0) (.slice none 0 0)/\bX wx (w.heap.size+1+1) (.bool false) (.slice none 0 0) (.slice none 0 0)):=by
  intro wx hg;obtain ⟨f1,m⟩:=ln h i b fl fc d f (w:=W) (w0:=w) (by rw [g];exact ag (ag (ae _ _) _) _);exact ⟨⟨m.k0 hg,f1.k0 hg⟩,bX.k0 (w:=W) (by rw [g];exact ⟨zG,zG,zG⟩) hg,bX.k0 (w:=W) (by rw [g];exact ⟨zG,zG,zG⟩) hg⟩
 have o:∀ (n:Nat) (c:Array Value) (a:Addr) (wx:World),(store a (.func (.func n) #[] c)).run Tryz.prog wx=stored Tryz.prog wx a (.func (.func n) #[] c) .plain:=fun n c a wx=>run_store _ _ _ _ _ rfl
 go_enter Tryz.func33,Tryz.ntmps33
 go_upto_region 2 with fail;rw [<- g];clear g;go_wp2;go_ret;have c:=l.out _ (ag (ae W _) (Obj.cells #[Value.func (.func 68) #[] #[.pointer (some ⟨w.heap.size,0,none⟩),.pointer (some ⟨w.heap.size+1+1,0,none⟩)]] 82));refine ⟨w.heap.size,w.heap.size+3,w.heap.size+1,w.heap.size+1+1,rfl,c.1,?_,c.2.1,c.2.2,aa j (ag (ae _ _) _)⟩;rw [<- k];have hn:=heap_alloc_new W (Obj.cells #[Value.func (.func 68) #[] #[.pointer (some ⟨w.heap.size,0,none⟩),.pointer (some ⟨w.heap.size+1+1,0,none⟩)]] 82);simp only [World.cell?,hn];rfl
attribute [local simp] iD bX im dR Pc6 nf kX
def m8 (w:World) (fv:Value) (n:Nat) (po:Option Addr) (pc:Nat) (ps:List aD) (L:Nat):Prop :=
 ∃ (go gj gf gn base:Nat) (v:Value) (fb:Bool) (fo fo2:Option Addr) (fl fc fl2 fc2:Nat),fv=.func (.func 34) #[] #[.pointer (some ⟨go,0,none⟩),.pointer (some ⟨gj,0,none⟩),.pointer (some ⟨gf,0,none⟩),.pointer (some ⟨gn,0,none⟩)]
  /\ w.cell? ⟨go,0,none⟩=some v/\bU w base v ps.length (gI ps) L/\(ps.length=0->v=.slice none 0 0)
  /\ kX w gj (.bool fb) (.slice fo fl fc) (.slice fo2 fl2 fc2) (.bool false) (.slice none 0 0) (.slice none 0 0) (.bool false) (.slice none 0 0) (.slice none 0 0) (.bool false) (.slice none 0 0) (.slice none 0 0)
  /\ FQ w (.agg #[.bool fb,.slice fo fl fc,.slice fo2 fl2 fc2]) 1 L/\(bX w gf (.bool fb) (.slice fo fl fc) (.slice fo2 fl2 fc2)/\iD w gf)/\dR w gn (.int .i64 (n:Nat)) (.slice po ps.length pc)
theorem m8.keep0 {d:Value} {n:Nat} {f:Option Addr} {g:Nat} {L:Nat} (h:m8 w d n f g ps L) (k:w.grownBy w' none):m8 w' d n f g ps L:=by
 obtain ⟨j,l,gf,m,base,v,o,p,a,fl,fc,b,c,e,q,r,s,t,u,i,x⟩:=h;exact ⟨j,l,gf,m,base,v,o,p,a,fl,fc,b,c,e,k.cell q Z,r.keep0 k,s,t.k0 k,u.keep0 k,⟨i.1.k0 k,i.2.k0 k⟩,x.k0 k⟩
def LwB (w:World) (g:Nat) (qa qf ql qs:Rat) (L:Nat):Prop:=∃ o0 l0 c0 o1 l1 c1 o2 l2 c2 o3 l3 c3 o4 l4 c4 o5 l5 c5 o6 l6 c6 o7 l7 c7,kX w g (.bool (rB qa)) (.slice o0 l0 c0) (.slice o1 l1 c1) (.bool (rB qf)) (.slice o2 l2 c2) (.slice o3 l3 c3) (.bool (rB ql)) (.slice o4 l4 c4) (.slice o5 l5 c5) (.bool (rB qs)) (.slice o6 l6 c6) (.slice o7 l7 c7)
 /\ FQ w (.agg #[.bool (rB qa),.slice o0 l0 c0,.slice o1 l1 c1]) qa L/\FQ w (.agg #[.bool (rB qf),.slice o2 l2 c2,.slice o3 l3 c3]) qf L/\FQ w (.agg #[.bool (rB ql),.slice o4 l4 c4,.slice o5 l5 c5]) ql L/\FQ w (.agg #[.bool (rB qs),.slice o6 l6 c6,.slice o7 l7 c7]) qs L
def AnR (W:World) (ps:List aD) (L:Nat) (iv:Value) (wr:World):Prop :=
 ∃ (i:Nat) (v:Value),i<=ps.length/\iv=.int .i64 i/\lI wr W.heap.size 93 v/\bU wr (W.heap.size+1) v i (gI ps) L/\(i=0->v=.slice none 0 0)/\W.grownBy wr none
theorem wO (n:Nat) (po:Option Addr) (pc:Nat) (ps:List aD) (mm:Int) (L:Nat) (w:World) (he:w.cell? ⟨1,0,none⟩=some (.int .i64 mm)) (R:aR w (.slice po ps.length pc) ps) (hn:ps.length<=1000) (hq:∀ p∈ps,p.kind=8->p.q=0) (hs:∀ p∈ps,p.v.size+2<=L) (hL:L<=100000000) (hz:2<=L) :
  Calls Tryz.prog 16 #[.agg #[.int .i64 (n:Nat),.slice po ps.length pc]] w fun e w'=>∃ fv,e=.returned fv/\m8 w' fv n po pc ps L/\w.grownBy w' none:=by
 have hf:=ab he;have HP:=ab R;have HQ:=ab hq;have HS:=ab hs;clear he R hq hs;obtain ⟨W,hW⟩:=eX (w.alloc (Obj.cells #[.int .i64 (n:Nat),.slice po ps.length pc] 24));have GW:Hid (w.grownBy W none):=by rw [hW];exact ag (ae _ _) _
 have NC:Hid (∀ wx,W.grownBy wx none->dR wx w.heap.size (.int .i64 (n:Nat)) (.slice po ps.length pc)):=by
  intro wx hg;exact dR.k0 (w:=W) (by rw [hW];exact ⟨zG,zG⟩) hg
 go_enter Tryz.func16,Tryz.ntmps16
 go_upto_region 1 with fail;rw [<- hW];clear hW;obtain ⟨gn,ho⟩:=eX w.heap.size;rw [<- ho] at NC ⊢;clear ho;have sf:∀ (n:Nat) (c:Array Value) (a:Addr) (wx:World),(store a (.func (.func n) #[] c)).run Tryz.prog wx=stored Tryz.prog wx a (.func (.func n) #[] c) .plain:=fun n c a wx=>run_store _ _ _ _ _ rfl
 go_wp2_with fail;refine (sK mm _ (GW.cell hf Z)).mono ?_;rintro e w1 ⟨m,fl,fc,f,g,l,rfl,F,G⟩;have K1:=ab (F.mono hz);have G1:=ab G;clear F G;go_upto_region 2 with fail;obtain ⟨w2,z⟩:=eX (w1.alloc (Obj.cells #[.bool false,.slice m fl fc,.slice f g l,.func (.func 60) #[] #[],.func (.func 61) #[] #[],.func (.func 62) #[] #[],.func (.func 63) #[] #[],.func (.func 64) #[] #[],.func (.func 65) #[] #[],.func (.func 66) #[] #[],.func (.func 67) #[] #[]] 87));have G2:Hid (W.grownBy w2 none):=by rw [z];exact ag G1 _
 have K2:Hid (FQ w2 (.agg #[.bool false,.slice m fl fc,.slice f g l]) 1 L):=K1.out.keep0 (by rw [z];exact ag (ae _ _) _);have FC:Hid (∀ wx,w2.grownBy wx none->bX wx w1.heap.size (.bool false) (.slice m fl fc) (.slice f g l)/\iD wx w1.heap.size):=by
  intro wx hg;obtain ⟨f1,f2⟩:=ln false m f fl fc g l (w:=wx) (w0:=w1) (T:=87) (by rw [<- z];exact hg);exact ⟨f2,f1⟩
 rw [<- z];clear z K1;obtain ⟨gf,hr⟩:=eX w1.heap.size;rw [<- hr] at FC ⊢;clear hr;have s0:=FC.out w2 (ae _ _);go_wp2_with fail;refine (laws_at false m f fl fc g l _).mono ?_;rintro e w3 ⟨bf,hH,bs,bz,rfl,c1,V,X,Y,g3⟩;have G3:=ab (aa G2 g3);have GF:=ab g3;have M:=ab c1;have C2:=ab V;have C3:=ab X;have C4:=ab Y;clear c1 V X Y s0 g3;have s0:=FC.out w3 GF;go_upto_region 3 with fail;go_cut [5,6] (fun s5 s6 wx=>Hid (∃ gj gg:Nat,s5=.pointer (some ⟨gj,0,none⟩)/\s6=.pointer (some ⟨gg,0,none⟩)/\w3.grownBy wx none
  /\ kX wx gj (.bool false) (.slice m fl fc) (.slice f g l) (.bool false) (.slice none 0 0) (.slice none 0 0) (.bool false) (.slice none 0 0) (.slice none 0 0) (.bool false) (.slice none 0 0) (.slice none 0 0)
  /\ kX wx gg (.bool false) (.slice none 0 0) (.slice none 0 0) (.bool false) (.slice m fl fc) (.slice f g l) (.bool false) (.slice none 0 0) (.slice none 0 0) (.bool false) (.slice none 0 0) (.slice none 0 0)))
 case first =>
  obtain ⟨s0,s1,s2⟩:=s0.1;go_region_held3 (fun w'=>w'.cell? ⟨gf,0,none⟩=some (.bool false)/\w'.cell? ⟨gf,1,none⟩=some (.slice m fl fc)/\w'.cell? ⟨gf,2,none⟩=some (.slice f g l)) (go_keep) (fail)
  all_goals (go_wp2_with fail;go_meet)
  ·exact ab ⟨_,_,rfl,rfl,aj (ag (ag (ae _ _) _) _) 1,lZ (w0:=w3) (aj (ag (ae _ _) _) 1),ru aA⟩
  ·exact ab ⟨_,_,rfl,rfl,aj (ag (ag (ae _ _) _) _) 1,ru aA,lZ (w0:=w3) (aj (ag (ae _ _) _) 1)⟩
 case rest =>
  obtain ⟨gj,gg,rfl,rfl,y,hv,hw⟩:=hcut.out;have HJ:=ab hv;have hA:=ab hw;have S:=ab (aa G3 y);have hk:=ab (aa GF y);have M:=ab (And.intro (M.1.k0 y) (M.2.k0 y));have C2:=ab (y.cell C2 Z);have C3:=ab (C3.k0 y);have C4:=ab (C4.k0 y);have K5:=ab (K2.keep0 hk);clear hcut y hv hw s0 G3 GF G2;have U:=NC.out wc S;go_upto_region 5 with fail;obtain ⟨wb,H⟩:=eX (wc.alloc (Obj.cells #[.slice none 0 0] 93));have GB:Hid (wc.grownBy wb none):=by rw [H];exact ag (ae _ _) _
  have B0:Hid (lI wb wc.heap.size 93 (.slice none 0 0)):=by rw [H];exact heap_alloc_new wc _
  rw [<- H];clear H U;have U:=NC.out wb (aa S GB);go_wp2;go_loopw [24] (fun iv wr=>Hid (AnR wc ps L iv wr)) (fun iv _=>ps.length-(intOf iv).toNat)
  case atStart=>exact ⟨0,_,O,rfl,B0,rA,fun _=>rfl,GB⟩
  case round =>
   obtain ⟨i,v,hi,rfl,b1,o1,e1,g1⟩:=hrel.out;have BX:=ab b1;have OW:=ab o1;have EV:=ab e1;have D:=ab g1;clear b1 o1 e1 g1 hrel U;have U:=NC.out wr (aa S D);have cb:=BX.out.cells;by_cases hlt:i<ps.length
   ·obtain ⟨b,off,rfl,rc,hsz⟩:=HP.out.row (aa (aa GW S) D) hlt;obtain ⟨p,R⟩:=eX (ps[i]);have N:=ab R;rw [<- R] at rc;clear R hsz;go_upto_region 8 with fail;obtain ⟨o,A⟩:=eX wr.heap.size;obtain ⟨w4,B⟩:=eX (wr.alloc (Obj.cells #[.int .i64 p.kind,.int .i64 p.a,.int .i64 p.b,.int .i64 p.c,.int .i64 p.d,.string p.v] 45));have G4:Hid (wr.grownBy w4 none):=by rw [B];exact ag (ae _ _) _
    have PB:Hid (nf w4 o p):=by rw [A];exact gJ wr p 45 (by rw [B];exact ae _ _)
    have hl:w4.heap.size=o+1:=by rw [B,A];simp
    have hB:Hid (wr.heap.size<=o):=Nat.le_of_eq A.symm;rw [<- B,<- A];obtain ⟨⟨x0,x1,x2⟩,⟨x3,x4,x5⟩,⟨x6,x7,x8⟩,x9,x10,x11⟩:=hA.out.k0 (aa D G4);clear B A rc U cb;go_upto_region 9 with fail;obtain ⟨K,t⟩:=eX (w4.alloc (Obj.cells #[.bool false,.slice none 0 0,.slice none 0 0,.bool false,.slice m fl fc,.slice f g l,.bool false,.slice none 0 0,.slice none 0 0,.bool false,.slice none 0 0,.slice none 0 0] 92));have GD:Hid (wr.grownBy K none):=by rw [t];exact ag G4 _
    have PD:Hid (nf K o p):=PB.out.k0 (by rw [t];exact ag (ae _ _) _);have LC:Hid (kX K (o+1) (.bool false) (.slice none 0 0) (.slice none 0 0) (.bool false) (.slice m fl fc) (.slice f g l) (.bool false) (.slice none 0 0) (.slice none 0 0) (.bool false) (.slice none 0 0) (.slice none 0 0)):=by rw [<- hl,t];exact lZ (ae _ _)
    have hm:K.heap[o+1]? = some (Obj.cells #[.bool false,.slice none 0 0,.slice none 0 0,.bool false,.slice m fl fc,.slice f g l,.bool false,.slice none 0 0,.slice none 0 0,.bool false,.slice none 0 0,.slice none 0 0] 92 (0,0)):=by rw [<- hl,t];exact heap_alloc_new _ _
    rw [<- t];clear t x0 x1 x2 x3 x4 x5 x6 x7 x8 x9 x10 x11 PB G4;obtain ⟨b0,b1,b2,b3,b4,b5⟩:=PD.out;have LB:Hid (K.heap[o+1]? = some (Obj.cells #[.bool false,.slice none 0 0,.slice none 0 0,.bool false,.slice m fl fc,.slice f g l,.bool false,.slice none 0 0,.slice none 0 0,.bool false,.slice none 0 0,.slice none 0 0] 92 (0,0))):=hm;clear hm;by_cases h8:p.kind=8
    case' pos =>
     have hg:=HQ.out p (by rw [N];exact List.getElem_mem hlt) h8;have e:bE p.kind p.q=0/\bF p.kind p.q=1/\bM p.kind p.q=0/\bG p.kind p.q=0:=by rw [h8,hg];simp [bE,bF,bM,bG]
     have fin:Hid (LwB K (o+1) (bE p.kind p.q) (bF p.kind p.q) (bM p.kind p.q) (bG p.kind p.q) L/\wr.grownBy K none):=by
      rw [e.1,e.2.1,e.2.2.1,e.2.2.2];exact ⟨⟨_,_,_,_,_,_,_,_,_,_,_,_,_,_,_,_,_,_,_,_,_,_,_,_,LC,aX _ _,K5.keep0 (aa D GD),aX _ _,aX _ _⟩,GD⟩
     clear e;rw [h8] at b0;clear h8 hg;go_upto_region 11 with fail;refine dq (fun wx=>LwB wx (o+1) (bE p.kind p.q) (bF p.kind p.q) (bM p.kind p.q) (bG p.kind p.q) L/\wr.grownBy wx none) fin (fun wx hx=>?_);clear fin b0 b1 b2 b3 b4 b5
    case' neg =>
     have hI:(p.kind != 8)=true:=by simpa using h8
     have E:=aa D GD;have hsz:=HS.out p (by rw [N];exact List.getElem_mem hlt);go_wp2_with fail;refine (law_at false m f fl fc g l p bf hH bs bz mm L K ((aa (aa GW S) E).cell hf Z) ⟨(M.1.k0 E).1,(M.1.k0 E).2.1,(M.1.k0 E).2.2,M.2.k0 E⟩ (K5.keep0 E) (E.cell C2 Z) (C3.k0 E) (C4.k0 E) O hL).mono ?_;rintro e w5 ⟨u1,d1,u2,d2,u3,d3,u4,d4,rfl,F,G,k3,k4,y⟩;obtain ⟨o0,l0,c0,o1,l1,c1,e1⟩:=F.shape;obtain ⟨o2,l2,V,o3,l3,X,e2⟩:=G.shape;obtain ⟨o4,l4,Y,o5,l5,c5,e3⟩:=k3.shape;obtain ⟨o6,l6,hy,o7,l7,c7,e4⟩:=k4.shape;simp only [Value.agg.injEq,Array.mk.injEq,List.cons.injEq,and_true,true_and] at e1 e2 e3 e4;obtain ⟨rfl,rfl⟩:=e1;obtain ⟨rfl,rfl⟩:=e2;obtain ⟨rfl,rfl⟩:=e3;obtain ⟨rfl,rfl⟩:=e4;have h5:w5.heap[o+1]? = some (Obj.cells #[.bool false,.slice none 0 0,.slice none 0 0,.bool false,.slice m fl fc,.slice f g l,.bool false,.slice none 0 0,.slice none 0 0,.bool false,.slice none 0 0,.slice none 0 0] 92 (0,0)):=by rw [y.block _ (zZ LB).1 Z];exact LB
     have fin:Hid (∀ wx,wx=tm w5 (o+1) 0 [.bool (rB (bE p.kind p.q)),.slice o0 l0 c0,.slice o1 l1 c1,.bool (rB (bF p.kind p.q)),.slice o2 l2 V,.slice o3 l3 X,.bool (rB (bM p.kind p.q)),.slice o4 l4 Y,.slice o5 l5 c5,.bool (rB (bG p.kind p.q)),.slice o6 l6 hy,.slice o7 l7 c7]->LwB wx (o+1) (bE p.kind p.q) (bF p.kind p.q) (bM p.kind p.q) (bG p.kind p.q) L/\wr.grownBy wx none):=by
      rintro wx rfl;obtain ⟨a,b⟩:=rM (o+1) _ [.bool (rB (bE p.kind p.q)),.slice o0 l0 c0,.slice o1 l1 c1,.bool (rB (bF p.kind p.q)),.slice o2 l2 V,.slice o3 l3 X,.bool (rB (bM p.kind p.q)),.slice o4 l4 Y,.slice o5 l5 c5,.bool (rB (bG p.kind p.q)),.slice o6 l6 hy,.slice o7 l7 c7] w5 0 _ h5 (fun u hu x e=>by subst e;simp at hu) (fun u hu x e=>by subst e;simp at hu);exact ⟨⟨_,_,_,_,_,_,_,_,_,_,_,_,_,_,_,_,_,_,_,_,_,_,_,_,yJ b,FQ.kept F a.2,FQ.kept G a.2,FQ.kept k3 a.2,FQ.kept k4 a.2⟩,aw (r:=none) (aa GD y) a.1 (fun _ _ e=>e) (fun b hb e=>by have:=zJ e;have:=hB.out;omega)⟩
     have s:∀ k,w5.frozen? ⟨o+1,k,none⟩=false:=fun k=>by simp [World.frozen?,h5]
     have f0:=s 0;have f1:=s 1;have f2:=s 2;have f3:=s 3;have f4:=s 4;have f5:=s 5;have f6:=s 6;have f7:=s 7;have f8:=s 8;have f9:=s 9;have hC:=s 10;have hD:=s 11;obtain ⟨⟨x0,x1,x2⟩,⟨x3,x4,x5⟩,⟨x6,x7,x8⟩,x9,x10,x11⟩:=yJ h5;clear F G k3 k4 y E h5 s b0 b1 b2 b3 b4 b5;go_upto_region 11 with fail;refine dq (fun wx=>LwB wx (o+1) (bE p.kind p.q) (bF p.kind p.q) (bM p.kind p.q) (bG p.kind p.q) L/\wr.grownBy wx none) (fin _ rfl) (fun wx hx=>?_);clear fin f0 f1 f2 f3 f4 f5 f6 f7 f8 f9 hC hD x0 x1 x2 x3 x4 x5 x6 x7 x8 x9 x10 x11
    all_goals
     obtain ⟨⟨o0,l0,c0,o1,l1,c1,o2,l2,V,o3,l3,X,o4,l4,Y,o5,l5,c5,o6,l6,c6,o7,l7,c7,lx,F,G,k3,k4⟩,C⟩:=hx;have hJ:=ab C;have KC:=ab (ns F G k3 k4);have OX:=ab (OW.keep0 C);have P:=ab (BX.keep C Z);obtain ⟨oa,oc,rfl⟩:=OW.out.shape;obtain ⟨⟨x0,x1,x2⟩,⟨x3,x4,x5⟩,⟨x6,x7,x8⟩,x9,x10,x11⟩:=lx;have cb:=P.out.cells.1;have hE:Hid (wc.grownBy wx none):=aa D C;have hF:Hid (wc.heap.size+1<=wx.heap.size):=by have:=P.out.lt;exact ab this
     clear F G k3 k4 C;go_wp2_with (at_builtin;refine m7 _ rfl _ _ 93 rfl (wc.heap.size+1) Tryz.underlying93 Tryz.infoLaw (.slice oa i oc) i (gI ps) L rfl (OX.keep0 (ag (ae _ _) _)) wx.heap.size 1 rfl _ _ _ _ _ (Ag _ _ _) (KC.kept (aL.of_gr (ag (ae _ _) _))) O (by simp;have:=hF.out;omega) ?_)
     intro ao I w5 J Q hG;have HN:Hid (some wc.heap.size≠(Value.slice oa i oc).ownBlock):=fun e=>by have:=(OX.fresh _ e.symm).1;omega
     have B6:=ab ((P.keep (ag (ae wx none) _) Z).keep Q HN);have O6:Hid (bU w5 (wc.heap.size+1) (.slice ao (i+1) I) (i+1) (gI ps) L):=J.congr (fun j hj=>by
      have:=De hlt j hj;rw [<- N] at this;exact this)
     have G6:Hid (wc.grownBy w5 none):=by
      refine aw (r:=none) (aa hE (ag (ae wx none) _)) Q (fun _ _ e=>e) (fun b hb e=>?_);have:=(OX.fresh b e.symm).1;omega
     have s6:=B6.out.set (.slice ao (i+1) I);have S6:=ab s6;obtain ⟨q0,q1⟩:=B6.out.cells;clear J Q hG s6 cb x0 x1 x2 x3 x4 x5 x6 x7 x8 x9 x10 x11;go_wp2;go_roundw
     case rel=>exact ⟨i+1,_,O,zN,S6.1,O6.keepR S6.2 (fun e=>by have:=(O6.fresh _ e).1;omega),fun h=>O,ah G6 _ _ zL⟩
     case measure=>simp [intOf];omega
   ·obtain rfl:ps.length=i:=O
    have J6:=HJ.out.k0 D;go_wp2;go_ret;exact ⟨_,rfl,⟨_,_,_,_,_,v,false,m,f,fl,fc,g,l,rfl,cb.1,OW,EV,J6,K5.keep0 D,FC wr (aa hk D),U⟩,aa (aa GW S) D⟩
theorem Eg {n L:Nat} {e:Ending} (b:cD n ps) (h:RulE w n ps.length (kg n ps) L e w'):NetE w n ps L e w':=by
 rcases h with ⟨v1,v2,X,rfl,r1,r2,a,c,d⟩ | ⟨rfl,a,d⟩ | ⟨rfl,a,d⟩
 ·refine .inl ⟨_,_,X,fun i=>X (n+i),rfl,r1,r2,((oz b X).1 a).2,fun p q hh=>?_,d⟩;obtain ⟨x,f,l,m⟩:=p6 b hh;exact ⟨fun j hj=>by rw [<- l j hj];exact c x f j O,fun i hi=>by rw [<- m i hi];exact c x f (n+i) O⟩
 ·refine .inr (.inl ⟨rfl,?_,d⟩);rintro ⟨V,I,hh⟩;obtain ⟨x,o,_⟩:=p6 b hh;exact a ⟨x,o⟩
 ·refine .inr (.inr ⟨rfl,?_,d⟩);obtain ⟨x,y,o,hy,j,hj,g⟩:=a;refine ⟨_,_,_,_,((oz b x).1 o).2,((oz b y).1 hy).2,?_⟩;by_cases k:j<n
  ·exact .inl ⟨j,k,g⟩
  ·exact .inr ⟨j-n,O,by show x (n+(j-n))≠y (n+(j-n));rw [show n+(j-n)=j by omega];exact g⟩
theorem Bh (n:Nat) (ps:List aD) (on:Nat->Bool) (R:Nat->Rat):gZ n ps R=gZ n (bh on ps) R:=by
 funext r
 unfold gZ;by_cases a:r=0
 ·rw [if_pos a,if_pos a]
 ·rw [if_neg a,if_neg a];by_cases b:r<n
  ·rw [if_pos b,if_pos b];funext x
   unfold dJ;by_cases c:x<n
   ·rw [if_pos c,if_pos c]
   ·rw [if_neg c,if_neg c];exact (jf on ps (x-n) r).symm
  ·rw [if_neg b,if_neg b,dt,cJ];cases ps[r-n]? with
   | none=>rfl
   | some p =>
    obtain ⟨d,e,f,g,_⟩:=cV (on (r-n)) p;simp only [Option.map_some,d,e,f,g]
theorem rz (n:Nat) (ps:List aD) (on:Nat->Bool):cU n (bh on ps)=cU n ps:=by
 funext r
 unfold cU;rw [dt];cases ps[r-n]? with
 | none=>rfl
 | some p=>simp only [Option.map_some,(cV (on (r-n)) p).2.2.2.2]
theorem Bi (g:Bool) (h b:Option Addr) (fl fc c d:Nat) (n:Nat) (l:Option Addr) (m:Nat) (ps:List aD) (on:Nat->Bool) (o:Value) (L:Nat) (w:World)
  (h1:FQ w (.agg #[.bool g,.slice h fl fc,.slice b c d]) 1 L) (hp:aR w (.slice l ps.length m) ps) (hR:cD n ps) (hl:LwAt w o ps.length (gI (bh on ps)) L)
  (hLs:iq (cU n ps) (n+ps.length)<L) (hL:L<=49000000) :
  Calls Tryz.prog 36 #[(jP g (.slice h fl fc) (.slice b c d)),.agg #[.int .i64 ((n:Nat):Int),.slice l ps.length m],o] w fun e w'=>NetE w n (bh on ps) L e w':=by
 have p:=pS hR on;have s:=rz n ps on;have a:=cJ on ps;have f:gZ n ps (gI (bh on ps))=kg n (bh on ps):=by rw [Bh n ps on,Eh]
 refine (Ei g h b fl fc c d n l m ps o (gI (bh on ps)) (cU n ps) L w h1 hp hR hl (fun i hi D E F G=>?_) (fun r y k j=>?_) (fun k r j=>?_) hLs hL).mono ?_
 ·have q:i<(bh on ps).length:=by rw [a];exact hi
  obtain ⟨u,B,x,C⟩:=n7 q;rw [u,x];have h1:=zv (cU n ps) (n+ps.length) (n+i) O;have z:cU n ps (n+i)=2*(ps[i].v.size+1)+1:=by
   unfold cU;rw [if_neg O,show n+i-n=i by omega,zX hi]
  have A:(bh on ps)[i].v.size=ps[i].v.size:=by rw [ie hi,(cV (on i) ps[i]).2.2.2.2]
  exact A8 (sQ _ _) (yI _ _) (bh on ps)[i].fit O
 ·rw [f];exact net_fit n (bh on ps) (n+ps.length) L (by rw [s];exact hLs) r y k j
 ·rw [f,<- s];exact net_wh n (bh on ps) k r j
 ·rw [f];intro e w' t;rw [<- a] at t;exact Eg p t
def qA (on:Nat->Bool) (ps:List aD) (i:Nat):Nat->Rat:=fun j=>if j / 4<i then gI (bh on ps) j else gI ps j
theorem C0 (on:Nat->Bool) (ps:List aD) (j:Nat) (h:j<ps.length*4):qA on ps ps.length j=gI (bh on ps) j:=if_pos O
theorem AH {i:Nat} (hi:i<ps.length) (a:on i=false∨ps[i].kind≠8) (j:Nat) (b:j / 4=i):gI (bh on ps) j=gI ps j:=by
 unfold gI;rw [b,dt,zX hi];have e:bK (on i) ps[i]=ps[i]:=by
  unfold bK;refine if_neg (fun h=>?_);rcases a with a | a
  ·rw [a] at h;exact absurd h.2 Z
  ·exact a h.1
 simp only [Option.map_some,e]
theorem AF {i:Nat} (hi:i<ps.length) (b:on i=false) (j:Nat):qA on ps i j=qA on ps (i+1) j:=by
 unfold qA;by_cases h:j / 4<i
 ·rw [if_pos h,if_pos O]
 ·rw [if_neg h];by_cases a:j / 4<i+1
  ·rw [if_pos a,AH hi (.inl b) j O]
  ·rw [if_neg a]
def joiR:Nat->Rat:=fun i=>if i=0 then 1 else if i=1 then 0 else if i=2 then 0 else 0
theorem C5 {i:Nat} (hi:i<ps.length) (g:on i=true) (k:ps[i].kind=8) (l:ps[i].q=0) (j:Nat):yR (qA on ps i) i joiR j=qA on ps (i+1) j:=by
 unfold yR qA;by_cases h:i*4<=j/\j<i*4+4
 ·rw [if_pos h,if_pos O];have a:i<(bh on ps).length:=by rw [cJ];exact hi
  obtain ⟨c,d,e,f⟩:=n7 a;have m:(bh on ps)[i].kind=4:=by rw [ie hi];unfold bK;rw [if_pos ⟨k,g⟩]
  have n:(bh on ps)[i].q=0:=by
   rw [<- l];unfold aD.q;rw [ie hi,(cV (on i) ps[i]).2.2.2.2]
  rw [m,n] at c d e f;have hc:j=i*4∨j=i*4+1∨j=i*4+2∨j=i*4+3:=O
  rcases hc with rfl | rfl | rfl | rfl
  ·rw [c,Nat.sub_self];rfl
  ·rw [d,show i*4+1-i*4=1 by omega];rfl
  ·rw [e,show i*4+2-i*4=2 by omega];rfl
  ·rw [f,show i*4+3-i*4=3 by omega];rfl
 ·rw [if_neg h];by_cases b:j / 4<i
  ·rw [if_pos b,if_pos O]
  ·rw [if_neg b,if_neg O]
theorem AG (on:Nat->Bool) (ps:List aD) (j:Nat):gI ps j=qA on ps 0 j:=(if_neg (Nat.not_lt_zero _)).symm
end Go.Proofs.YtkbmbmdemajoaaaGreatDoor
