/- Contracts. -/
import Derived.RangeFuncWrites
import Derived.RangeFuncCalls
import Derived.OwnWalkIn
import Derived.TacticsInMore
import Derived.Test.YtbomdfhdocaagaaGreatDoorXPo
import Derived.Test.YtbomdfhdocaagaaGreatDoorXPl
import Derived.Test.YtbomdfhdocaagaaGreatDoorXPf
namespace Go.Proofs.YtbomdfhdocaagaaGreatDoor
open Go.RowKit
set_option linter.all false
set_option maxHeartbeats 8000000
set_option maxRecDepth 10000
attribute [local simp] bL eJ dP CL nk
variable {w w':World} {ps:List aA} {k base L:Nat} {x x0 x1 x2 x3 x4 x5 x6 x7 x8 x9 x10 x11:Value} {nodes:Int} {R:Nat->Rat} {on:Nat->Bool}
def nV (k:Nat):Value:=.int .i64 k
def aX (ps:List aA) (i:Nat):List Nat:=(List.range i).filter fun j=>decide ((ps[j]?.map aA.kind)=some 8)
def ns (ps:List aA) (i:Nat) (h:i<ps.length):aX ps (i+1)=if ps[i].kind=8 then aX ps i++[i] else aX ps i:=by
 unfold aX;rw [List.range_succ,List.filter_append];by_cases e:ps[i].kind=8
 ·rw [if_pos e];simp [zX h,e]
 ·rw [if_neg e];simp [zX h,e]
def pY (ps:List aA) (i:Nat):(aX ps i).length<=i:=by
 have:=List.length_filter_le (fun j=>decide ((ps[j]?.map aA.kind)=some 8)) (List.range i);rw [List.length_range] at this;exact this
def StaAt (w:World) (fv:Value) (n:Nat) (po:Option Addr) (pc:Nat) (ps:List aA):Prop :=
 ∃ (gd gn:Nat) (v:Value),fv=.func (.func 62) #[] #[.pointer (some ⟨gd,0,none⟩),.pointer (some ⟨gn,0,none⟩)]/\w.cell? ⟨gd,0,none⟩=some v/\iu nV w v (aX ps ps.length)/\dP w gn (.int .i64 (n:Nat)) (.slice po ps.length pc)
def StR (W:World) (ps:List aA) (iv:Value) (wr:World):Prop :=
 ∃ (i:Nat) (v:Value),i<=ps.length/\iv=.int .i64 i/\mq wr W.heap.size 121 v/\bM nV 3 wr (W.heap.size+1) v (aX ps i)/\W.grownBy wr none
def Tryz.infoIntD:(Tryz.prog.info? 3).map (fun i=>(i.zero,i.size,i.bytes))=some (some (.int .i64 0),1,8):=zK
def Cp (n:Nat) (q:Option Addr) (s:Nat) (ps:List aA) (w:World) (t:aB w (.slice q ps.length s) ps) (hn:ps.length<=1000) :
  Calls Tryz.prog 35 #[.agg #[.int .i64 (n:Nat),.slice q ps.length s]] w fun e w'=>∃ fv,e=.returned fv/\StaAt w' fv n q s ps/\w.grownBy w' none:=by
 have HP:=ab t;clear t;obtain ⟨W,G⟩:=eX (w.alloc (Obj.cells #[.int .i64 (n:Nat),.slice q ps.length s] 24));have K:Hid (w.grownBy W none):=by rw [G];exact ag (ae _ _) _
 have M:Hid (∀ wx,W.grownBy wx none->dP wx w.heap.size (.int .i64 (n:Nat)) (.slice q ps.length s)):=by
  intro wx hg;exact dP.k0 (w:=W) (by rw [G];exact ⟨zG,zG⟩) hg
 go_enter Tryz.func35,Tryz.ntmps35
 go_upto_region 1 with fail;rw [<- G];clear G;go_upto_region 2 with fail;obtain ⟨I,f⟩:=eX (W.alloc (Obj.cells #[.slice none 0 0] 121));have N:Hid (W.grownBy I none):=by rw [f];exact ag (ae _ _) _
 have B0:Hid (mq I W.heap.size 121 (.slice none 0 0)):=by rw [f];exact heap_alloc_new W _
 rw [<- f];clear f;have B:=M.out I N;go_wp2;go_loopw [9] (fun iv wr=>Hid (StR W ps iv wr)) (fun iv _=>ps.length-(intOf iv).toNat)
 case atStart=>exact ⟨0,_,O,rfl,B0,fA,N⟩
 case round =>
  obtain ⟨i,v,hi,rfl,H,U,V⟩:=hrel.out;have P:=ab H;have u:=ab U;have y:=ab V;clear H U V hrel B;have B:=M.out wr y;have C:=P.out.cells;by_cases hlt:i<ps.length
  ·obtain ⟨b,off,rfl,rc,J⟩:=HP.out.row (aa K y) hlt;have j:=ab (ns ps i hlt);obtain ⟨p,t⟩:=eX (ps[i]);rw [<- t] at rc j;clear t J;go_upto_region 5 with fail;obtain ⟨gp,o⟩:=eX wr.heap.size;obtain ⟨A,g⟩:=eX (wr.alloc (Obj.cells #[.int .i64 p.kind,.int .i64 p.a,.int .i64 p.b,.int .i64 p.c,.int .i64 p.d,.string p.v] 55));have D:Hid (wr.grownBy A none):=by rw [g];exact ag (ae _ _) _
   have PB:Hid (nk A gp p):=by rw [o];exact ie wr p 55 (by rw [g];exact ae _ _)
   rw [<- g,<- o];clear g o rc B C;obtain ⟨X,H,b2,b3,b4,b5⟩:=PB.out;have E:=ab (P.keep D Z);have Q:=ab (u.keep0 D);have C:=E.out.cells;by_cases F:p.kind=8
   ·have l:Hid (aX ps (i+1)=aX ps i++[i]):=by rw [j,if_pos F];exact ab rfl
    have he:=pY ps i;obtain ⟨Y,oc,rfl⟩:=u.out.shape;rw [F] at X;clear F;go_wp2_with (at_builtin;refine ke nV 3 (.int .i64 0) 8 _ rfl _ _ 121 rfl (W.heap.size+1) Tryz.underlying121 Tryz.infoIntD rfl (.slice Y (aX ps i).length oc) (aX ps i) rfl (Q.keep0 (ag (ae _ _) _)) A.heap.size i rfl (by go_simp;rfl) rfl O O (by have:=E.out.lt;simp;omega) ?_)
    intro ao z w5 h m;have HN:Hid (some W.heap.size≠(Value.slice Y (aX ps i).length oc).ownBlock):=fun e=>by have:=(u.fresh _ e.symm).1;omega
    have S:=ab ((E.keep (ag (ae A none) _) Z).keep m HN);have O6:=ab h;have G6:Hid (W.grownBy w5 none):=by
     refine aw (r:=none) (aa (aa y D) (ag (ae A none) _)) m (fun _ _ e=>e) (fun b hb e=>?_);have:=(u.fresh b e.symm).1;omega
    have T:=ab (S.set (.slice ao ((aX ps i).length+1) z));obtain ⟨q0,q1⟩:=S.out.cells;clear h m C X H b2 b3 b4 b5;go_wp2;go_roundw
    case rel=>exact ⟨i+1,_,O,zN,T.1,by rw [l];exact O6.keepB T.2.1 O,ah G6 _ _ zL⟩
    case measure=>exact bH
   ·have l:Hid (aX ps (i+1)=aX ps i):=by rw [j,if_neg F];exact ab rfl
    go_wp2;go_roundw
    case rel=>exact ⟨i+1,v,O,zN,E,by rw [l];exact Q,aa y D⟩
    case measure=>exact bH
  ·obtain rfl:ps.length=i:=O
   go_wp2;go_ret;exact ⟨_,rfl,⟨_,_,v,rfl,C.1,u.row,B⟩,aa K y⟩
open Go Go.RowKit
def rndPost (n0:Nat) (I:Nat->World->Prop) (Ix:World->Prop) (k:Nat) (W:World):Exit->Act->World->Prop
 | .normal,_,W'=>KeepsOthers W W'/\Below n0 W W'/\I (k+1) W'
 | .ret,_,W'=>KeepsOthers W W'/\Ix W'
 | _,_,_=>False
def Cc {P:Program} {F:Fence} {n:Nat} {g:Operand} {p:Tmp} {assign body:Code} {Q:Exit->Act->World->Prop} {a:Act} (hro:F.round=none) (h1:1<=n)
  {gf:Nat} {lb:Array Value} (hg:a.eval g=.func (.func gf) #[] lb) (hFg:F.fn gf) (eg:∀ args w,(callFunc gf args).run P w=.ok (.enter gf args) w)
  (Hd:Nat->Value->World->Prop) (hHd:∀ k x A B row,Hd k x A->A.grownBy B row->(∀ r,row=some r->∃ o:Obj,A.heap[r]? = some o/\o.isCells=false)->Hd k x B) (N n0:Nat) (hn0:n0<=w.heap.size)
  (hseq:∀ (l:Nat) (J:Nat->World->Prop) (Jx:World->Prop) (W:World),w.grownBy W none->(∀ k A B,J k A->A.grownBy B none->J k B) ->
   (∀ k x W1,J k W1->Hd k x W1->k<N->YieldAt F (n-1-1) P l #[x] W1 fun e W'=>(e=.returned (.bool true)/\J (k+1) W'/\Below n0 W1 W')∨(e=.returned (.bool false)/\Jx W'))->J 0 W ->
   CallsIn F (n-1) P gf (#[.func (.yield l) #[] #[]]++lb) W fun e W'=>(∃ v,e=.returned v)/\(J N W'∨Jx W'))
  (I:Nat->World->Prop) (Ix:World->Prop) (hI:∀ k A B row,I k A->A.grownBy B row->(∀ r,row=some r->w.heap.size<=r)->I k B) (hIx:∀ A B row,Ix A->A.grownBy B row->(∀ r,row=some r->w.heap.size<=r/\∃ o:Obj,A.heap[r]? = some o/\o.isCells=false)->Ix B)
  (h0:I 0 w) (a₁:Value->Act)
  (hassign:∀ (l k:Nat) (x:Value) (W:World) (K:Act->World->Prop),Hd k x W->K (a₁ x) W->assign.wpIn (F.inRound l) (n-1-1) P (Exit.then K (fun _ _ _=>False)) { tmps:=a.tmps.setIfInBounds p x,defers:=[] } W)
  (hbody:∀ (l k:Nat) (x:Value) (W:World),I k W->Hd k x W->k<N->body.wpIn (F.inRound l) (n-1-1) P (rndPost n0 I Ix k W) (a₁ x) W)
  (hdone:∀ (D:Nat) (W:World),w.heap.size<=D->I N W->W.heap[D]? = some (.deferred (some []))->Q .normal { a with defers:={ target:=.collected D,args:=#[] } :: a.defers } W)
  (hstop:∀ (D:Nat) (W:World),w.heap.size<=D->Ix W->W.heap[D]? = some (.deferred (some []))->Code.ret.wpIn F n P Q { a with defers:={ target:=.collected D,args:=#[] } :: a.defers } W) :
  (Code.rangeFunc g #[p] assign body).wpIn F n P Q a w:=by
 refine wpIn_rangeFunc fun fn hfn=>?_
 rw [hro];obtain ⟨rc,hrc⟩:∃ rc:LoopState->Option Code->Loop,rc=fun st pe=>{ state:=st,pending:=pe,fn,tmps:=a.tmps,params:=#[p],assign,body,defers:=w.heap.size }:=⟨_,rfl⟩
 obtain ⟨W1,hW1⟩:=eX ((w.alloc (.deferred (some []))).alloc (.loop (rc .ready none)));have g1:w.grownBy W1 none:=by rw [hW1];exact ag (ag (ae _ _) _) _
 have l1:W1.heap[w.heap.size+1]? = some (.loop (rc .ready none)):=by
  have:=World.alloc_heap_new (w.alloc (.deferred (some []))) (.loop (rc .ready none));rw [World.size_alloc] at this;rw [hW1];exact this
 have d1:W1.heap[w.heap.size]? = some (.deferred (some [])):=by
  rw [hW1];exact (Below.heap_alloc _ _ _ Z).trans (World.alloc_heap_new w _)
 have aN:∀ {W:World} {l:Nat} (o:Obj),W.grownBy (W.putObj l o) (some l):=fun o=>grownBy_putObj' _ _ o
 refine ⟨w.heap.size+1,[{ target:=.collected w.heap.size,args:=#[] }],W1,{ target:=.fn (.func gf) lb,args:=#[.func (.yield (w.heap.size+1)) #[] #[]] },W1,gf,#[.func (.yield (w.heap.size+1)) #[] #[]]++lb,W1,?_,?_,?_,?_,fun _=>h1,?_⟩
 ·rw [hW1,hrc];exact run_enterLoop_outer ..
 ·simp only [resolve,hg];simp [go_sem]
 ·intro f' hf';simp [Target.leads] at hf';subst hf';exact hFg
 ·simp [invoke,go_sem,eg]
 ·refine (hseq (w.heap.size+1) (fun k W=>I k W/\W.heap[w.heap.size+1]? = some (.loop (rc .ready none))/\W.heap[w.heap.size]? = some (.deferred (some [])))
   (fun W=>Ix W/\W.heap[w.heap.size+1]? = some (.loop (rc .done (some .ret)))/\W.heap[w.heap.size]? = some (.deferred (some []))) W1 g1 ?_ ?_ ⟨hI _ _ _ none h0 g1 nofun,l1,d1⟩).mono ?_
  ·rintro k A B ⟨i1,i2,i3⟩ hg;exact ⟨hI k A B none i1 hg nofun,(hg.block _ (zZ i2).1 Z).trans i2,(hg.block _ (zZ i3).1 Z).trans i3⟩
  ·rintro k x W ⟨i1,i2,i3⟩ hd hk;have hlt:=(zZ i2).1;have hy:=run_yield (P:=P) (args:=#[x]) i2 (by rw [hrc];rfl);rw [hrc] at hy;refine ⟨fn,_,assign,body,hy,roundIn_of_wpIn hfn ?_⟩;have e0:((#[p]:Array Tmp).zip #[x]).foldl (fun tmps (t,a)=>tmps.setIfInBounds t a) a.tmps=a.tmps.setIfInBounds p x:=Z
   show assign.wpIn _ _ _ _ { tmps:=((#[p]:Array Tmp).zip #[x]).foldl (fun tmps (t,a)=>tmps.setIfInBounds t a) a.tmps,defers:=[] } _
   rw [e0];refine hassign _ k x W _ hd ⟨_,run_beginRound i2 (by rw [hrc]),?_⟩;obtain ⟨W2,hW2⟩:=eX (W.putObj (w.heap.size+1) (.loop { rc .ready none with state:=.busy }));have g2:W.grownBy W2 (some (w.heap.size+1)):=by rw [hW2];exact aN _
   have l2:W2.heap[w.heap.size+1]? = some (.loop { rc .ready none with state:=.busy }):=by rw [hW2];exact World.putObj_heap_same hlt
   have d2:W2.heap[w.heap.size]? = some (.deferred (some [])):=by rw [hW2];exact (World.putObj_heap_other O).trans i3
   have j2:I k W2:=hI _ _ _ _ i1 g2 (fun r e=>by cases e;omega);have h2:Hd k x W2:=hHd _ _ _ _ _ hd g2 (fun r e=>by cases e;exact ⟨_,i2,rfl⟩);have b2:Below n0 W W2:=(Below.refl n0 W).grown g2 O (fun r e=>by cases e;omega);rw [<- hW2];refine wpIn_mono (hbody _ k x W2 j2 h2 hk) ?_;have fin:∀ (jp:Option Code) (W3:World),KeepsOthers W2 W3->(Instr.endRound (w.heap.size+1) jp).run P W3=.ok (.bool jp.isNone) (W3.putObj (w.heap.size+1) (.loop (rc (if jp.isNone then .ready else .done) jp)))
     /\ W3.heap[w.heap.size+1]? = some (.loop { rc .ready none with state:=.busy })/\(W3.putObj (w.heap.size+1) (.loop (rc (if jp.isNone then .ready else .done) jp))).heap[w.heap.size+1]? = some (.loop (rc (if jp.isNone then .ready else .done) jp))
     /\ (W3.putObj (w.heap.size+1) (.loop (rc (if jp.isNone then .ready else .done) jp))).heap[w.heap.size]? = some (.deferred (some [])):=by
    intro jp W3 k3;have l3:=k3.same _ _ l2 rfl;have e:=run_endRound (P:=P) jp l3;rw [hrc] at e l3 ⊢;exact ⟨e,l3,World.putObj_heap_same (zZ l3).1,(World.putObj_heap_other O).trans (k3.same _ _ d2 rfl)⟩
   rintro e a3 W3 hp;cases e with
   | normal =>
    obtain ⟨k3,b3,i3'⟩:=hp;obtain ⟨r,l3,l4,d4⟩:=fin none W3 k3;refine ⟨_,_,r,.inl ⟨rfl,⟨hI _ _ _ _ i3' (aN _) (fun r e=>by cases e;omega),l4,d4⟩,(b2.trans b3).trans ?_⟩⟩;have:=(zZ l3).1;exact (Below.refl n0 W3).grown (aN _) O (fun r e=>by cases e;omega)
   | ret =>
    obtain ⟨k3,i3'⟩:=hp;obtain ⟨r,l3,l4,d4⟩:=fin (some .ret) W3 k3;exact ⟨_,_,r,.inr ⟨rfl,hIx _ _ _ i3' (aN _) (fun r e=>by cases e;exact ⟨O,_,l3,rfl⟩),l4,d4⟩⟩
   | exit id=>exact hp.elim
   | goto t=>exact hp.elim
   | panic ch=>exact hp.elim
   | outgrown=>exact hp.elim
  ·rintro e W2 ⟨⟨v,rfl⟩,⟨i1,i2,i3⟩ | ⟨i1,i2,i3⟩⟩
   ·exact ⟨none,_,by have:=run_endLoop (P:=P) i2 (by rw [hrc];simp);rw [hrc] at this;exact this,hdone _ _ zL (hI _ _ _ _ i1 (aN _) (fun r e=>by cases e;omega)) ((World.putObj_heap_other O).trans i3)⟩
   ·exact ⟨some .ret,_,by have:=run_endLoop (P:=P) i2 (by rw [hrc];simp);rw [hrc] at this;exact this,hstop _ _ zL (hIx _ _ _ i1 (aN _) (fun r e=>by cases e;exact ⟨O,_,i2,rfl⟩)) ((World.putObj_heap_other O).trans i3)⟩
open Go Go.RowKit
attribute [local simp] bL eJ dP
def iO (ps:List aA) (k i:Nat):Bool:=decide ((ps[i]?.map aA.kind)=some 8) && Nat.testBit k (aX ps i).length
def onJ (ps:List aA) (k j i:Nat):Bool:=decide ((ps[i]?.map aA.kind)=some 8) && decide ((aX ps i).length<j) && Nat.testBit k (aX ps i).length
def jP (ps:List aA) (k j:Nat):List Bool:=(List.range ps.length).map (onJ ps k j)
def Eu (ps:List aA) (k i:Nat):onJ ps k 0 i=false:=by simp [onJ]
def rK (ps:List aA) (n:Nat):aX ps (n+1)=aX ps n++(if (ps[n]?.map aA.kind)=some 8 then [n] else []):=by
 unfold aX;rw [List.range_succ,List.filter_append,List.filter_cons,List.filter_nil];congr 1
 by_cases c:(ps[n]?.map aA.kind)=some 8
 ·rw [if_pos c,if_pos (decide_eq_true c)]
 ·rw [if_neg c,if_neg (by rw [decide_eq_false c];simp)]
def tu (ps:List aA):∀ n i,i<n->(ps[i]?.map aA.kind)=some 8->(aX ps i).length<(aX ps n).length:=by
 intro n;induction n with
 | zero=>intro i h;omega
 | succ n ih =>
  intro i h a;have e:=rK ps n;by_cases hi:i=n
  ·subst hi;rw [e,if_pos a,List.length_append];simp
  ·have:=ih i O a;rw [e,List.length_append];omega
def Ak (ps:List aA) (k i:Nat) (h:i<ps.length):onJ ps k (aX ps ps.length).length i=iO ps k i:=by
 unfold onJ iO;by_cases c:(ps[i]?.map aA.kind)=some 8
 ·rw [decide_eq_true (tu ps ps.length i h c)];simp
 ·simp [c]
def zm (ps:List aA):∀ n j p,(aX ps n)[j]? = some p->p<n/\(ps[p]?.map aA.kind)=some 8/\(aX ps p).length=j:=by
 intro n;induction n with
 | zero=>intro j p h;simp [aX] at h
 | succ n ih =>
  intro j p h;have e:=rK ps n;rw [e] at h;by_cases f:j<(aX ps n).length
  ·rw [List.getElem?_append_left f] at h;obtain ⟨a,b,c⟩:=ih j p h;exact ⟨O,b,c⟩
  ·rw [List.getElem?_append_right O] at h;by_cases c:(ps[n]?.map aA.kind)=some 8
   ·rw [if_pos c] at h;have d:j-(aX ps n).length=0:=by
     rcases zP (j-(aX ps n).length) with d | d
     ·exact d
     ·rw [List.getElem?_eq_none (by rw [List.length_singleton];omega)] at h;cases h
    rw [d] at h;simp at h;subst h;exact ⟨O,c,O⟩
   ·rw [if_neg c] at h;simp at h
def iP (ps:List aA) (k j:Nat):(jP ps k j).length=ps.length:=by simp [jP]
def Ex (ps:List aA) (k:Nat):List.replicate ps.length false=jP ps k 0:=by
 apply List.ext_getElem
 ·simp [jP]
 ·intro i a b;simp [jP,Eu]
def Ew {j p:Nat} (h:(aX ps ps.length)[j]? = some p):(jP ps k j).set p (Nat.testBit k j)=jP ps k (j+1):=by
 obtain ⟨o,d,g⟩:=zm ps _ j p h;apply List.ext_getElem
 ·simp [jP]
 ·intro i m b;rw [List.getElem_set];have l:i<ps.length:=by rw [iP] at b;exact b
  by_cases e:p=i
  ·subst e;rw [if_pos rfl];simp [jP,onJ,d,g]
  ·rw [if_neg e];simp only [jP,List.getElem_map,List.getElem_range,onJ];by_cases c:(ps[i]?.map aA.kind)=some 8
   ·have f:(aX ps i).length≠j:=by
     intro n;rcases Nat.lt_or_ge i p with a | a
     ·have:=tu ps p i a c;omega
     ·have:=tu ps i p O d;omega
    have:decide ((aX ps i).length<j)=decide ((aX ps i).length<j+1):=by
     rw [decide_eq_decide];omega
    rw [this]
   ·simp [c]
def DR (n:Int):bits .and .i64 n 1=n % 2:=by
 have b:(BitVec.ofInt 64 1).toNat=2^1-1:=zD
 have a:(BitVec.ofInt 64 n &&& BitVec.ofInt 64 1).toNat=(n % ((2^64:Nat):Int)).toNat % 2^1:=by
  rw [BitVec.toNat_and,BitVec.toNat_ofInt,b,Nat.and_two_pow_sub_one_eq_mod]
 show IntKind.i64.wrap ((BitVec.ofInt 64 n &&& BitVec.ofInt 64 1).toNat:Nat)=n % 2
 rw [a,IntKind.wrap_i64];omega
def uG (row j:Nat):bits .and .i64 ((row:Int) / 2^j) 1=((row / 2^j % 2:Nat):Int):=by
 rw [DR,Int.natCast_emod,Int.natCast_ediv,Int.natCast_pow];rfl
def uH (k j:Nat):((((k / 2^j % 2:Nat):Int))==1)=Nat.testBit k j:=by
 rw [Nat.testBit_eq_decide_div_mod_eq];have h:=Nat.mod_two_eq_zero_or_one (k / 2^j);rcases h with h | h<;>rw [h]<;>rfl
def uA (ps:List aA) (k:Nat) (x:Value) (W:World):Prop:=∃ g,x=.slice (some ⟨g,0,none⟩) ps.length ps.length/\∀ i,i<ps.length->W.cell? ⟨g,i,none⟩=some (.bool (iO ps k i))
def uu (base:Nat) (ps:List aA) (k:Nat) (x:Value) (W:World):Prop:=∃ g,base<=g/\x=.slice (some ⟨g,0,none⟩) ps.length ps.length/\CE W g (jP ps k (aX ps ps.length).length)
def uu.hd {W:World} (h:uu base ps k x W):uA ps k x W:=by
 obtain ⟨g,_,e,ha⟩:=h;refine ⟨g,e,fun i hi=>?_⟩;rw [ha.cell i (by rw [iP];exact hi)];simp only [jP,List.getElem_map,List.getElem_range];rw [Ak ps k i hi]
def uu.low {base':Nat} {W:World} (h:uu base ps k x W) (hb:base'<=base):uu base' ps k x W:=by
 obtain ⟨g,b,a⟩:=h;exact ⟨g,O,a⟩
def uu.row {b:Nat} {A B:World} (h:uu base ps k x A) (hg:A.grownBy B (some b)) (hb:b<base):uu base ps k x B:=by
 obtain ⟨g,a,e,ha⟩:=h;exact ⟨g,a,e,ha.keep hg (fun e=>by have:=zJ e;omega)⟩
def uu.keep {A B:World} {row:Option Nat} (h:uu base ps k x A) (hg:A.grownBy B row) (b:∀ r,row=some r->∃ o:Obj,A.heap[r]? = some o/\o.isCells=false):uu base ps k x B:=by
 obtain ⟨g,c,e,ha⟩:=h;refine ⟨g,c,e,ha.keep hg fun d=>?_⟩;obtain ⟨o,a,hn⟩:=b _ d.symm;rw [show A.heap[g]? = some _ from ha] at a;cases a
 cases hn
def ItR (ps:List aA) (J:Nat->World->Prop) (w:World) (N:Nat) (iv:Value) (wr:World):Prop:=∃ k:Nat,k<=N/\iv=.int .i64 k/\J k wr/\Below w.heap.size w wr
def InR (ps:List aA) (g k d:Nat) (W:World) (iv:Value) (wr:World):Prop:=∃ j:Nat,j<=d/\iv=.int .i64 j/\CE wr g (jP ps k j)/\W.grownBy wr none
def wX (l m n gd F:Nat) (po:Option Addr) (pc:Nat) (ps:List aA) (v:Value) (J:Nat->World->Prop) (Jx:World->Prop) (w W:World) (hc:w.cell? ⟨gd,0,none⟩=some v) (hr:iu nV w v (aX ps ps.length)) (hn:dP w F (.int .i64 (n:Nat)) (.slice po ps.length pc))
  (hd:(aX ps ps.length).length<=6) (hl:ps.length<=16) (hg:w.grownBy W none) (hJ:∀ k A B,J k A->A.grownBy B none->J k B)
  (hY:∀ k x W1,J k W1->uu w.heap.size ps k x W1->k<2^(aX ps ps.length).length->YieldAt Fence.wide m Tryz.prog l #[x] W1 fun e r=>(e=.returned (.bool true)/\J (k+1) r/\Below w.heap.size W1 r)∨(e=.returned (.bool false)/\Jx r)) (h0:J 0 W) :
  Calls Tryz.prog 62 #[.func (.yield l) #[] #[],.pointer (some ⟨gd,0,none⟩),.pointer (some ⟨F,0,none⟩)] W fun e r=>(∃ v,e=.returned v)/\(J (2^(aX ps ps.length).length) r∨Jx r):=by
 have I:=ab hc;have HR:=ab hr;have G:=ab hn;have HJ:=ab hJ;have HY:=ab hY;have H0:=ab h0;have K:=ab hg;obtain ⟨ao,cap,rfl,V,X,a⟩:=hr;have HK:Hid (∀ j,j<(aX ps ps.length).length->∃ p b off,(aX ps ps.length)[j]? = some p/\ao=some ⟨b,off,none⟩/\b<w.heap.size/\w.cell? ⟨b,off+j,none⟩=some (.int .i64 (p:Nat))):=by
  intro j o;obtain ⟨b,off,e,hb,c⟩:=a j o;exact ⟨_,b,off,zX o,e,hb,c⟩
 unfold maxLen at X;clear hc hn hJ hY h0 hg a;have c0:=K.out.cell I Z;obtain ⟨n0,n1⟩:=G.out.k0 K;obtain ⟨d,hd0⟩:=eX ((aX ps ps.length).length);have M:=ab hd0;obtain ⟨N,q⟩:=eX (2^d);have ho:=ab q;have he:N<=64:=by
  have h6:2^d<=2^6:=Nat.pow_le_pow_right O O;rw [q];omega
 have hw:wrap64 (2^d:Int)=(N:Int):=by
  rw [show (2:Int)^d=(N:Int) by rw [q];simp];unfold wrap64;omega
 rw [<- hd0] at hd c0 V;rw [<- hd0,<- q] at HY;rw [<- hd0] at HK;rw [<- hd0,<- q];clear hd0 q;go_enter Tryz.func62,Tryz.ntmps62
 go_upto_region 1 with fail;rw [hw];go_loopw [11] (fun iv wr=>Hid (ItR ps J w N iv wr)) (fun iv _=>N-(intOf iv).toNat)
 case atStart=>exact ⟨0,O,rfl,H0,(Below.refl _ _).grown K zL nofun⟩
 case round =>
  obtain ⟨k,hk,rfl,o,hb⟩:=hrel.out;have JK:=ab o;have h:=ab hb;clear o hb hrel n0 n1 c0;have P:=bS I;have s:=bS G.1;have c0:=(h.cell (p:=⟨gd,0,none⟩) P).trans I;have n0:=(h.cell (p:=⟨F,0,none⟩) s).trans G.1;have n1:=(h.cell (p:=⟨F,1,none⟩) s).trans G.2;by_cases hlt:k<N
  ·go_wp2_with (at_make;refine eI bv 4 false 1 _ rfl _ _ 34 rfl Tryz.underlying34 Tryz.infoBool rfl _ _ _ _ ps.length rfl rfl rfl rfl O O ?_)
   intro w1 ha g1;obtain ⟨g,hg⟩:=eX wr.heap.size;rw [<- hg] at ha ⊢;have A1:Hid (CE w1 g (jP ps k 0)):=by rw [<- Ex];exact ha
   have Q:=ab g1;have t:wr.heap.size<=g:=Nat.le_of_eq hg.symm;have u:=ab t;clear ha g1 hg t;have c1:=Q.out.cell c0 Z;go_wp2;go_loopw [20] (fun iv w2=>Hid (InR ps g k d wr iv w2)) (fun iv _=>d-(intOf iv).toNat)
   case atStart=>exact ⟨0,O,rfl,A1,Q⟩
   case round =>
    obtain ⟨j,o,rfl,ha,D⟩:=hrel.out;have S:=ab ha;have y:=ab D;have lg:=ha.lt;have i:=ha.free;clear ha D hrel c1 A1 Q n0 n1;have c2:=y.out.cell c0 Z;clear c0;by_cases T:j<d
    ·obtain ⟨p,b,off,Y,e2,hb,cb⟩:=HK.out j T;cases e2
     obtain ⟨p1,p2,p3⟩:=zm ps _ j p Y;have E1:=ab Y;have z:=(h.cell (p:=⟨b,off+j,none⟩) hb).trans cb;have hp:=y.out.cell z Z;obtain ⟨v0,hs⟩:∃ v,World.cell? _ ⟨g,p,none⟩=some v:=⟨_,S.cell p (by rw [iP];exact p1)⟩;have hq:=i p;clear Y p2 p3 cb z hb i;rw [<- M] at c2 ⊢;go_wp2;go_roundw
     case rel =>
      refine ⟨j+1,O,zN,?_,ah y _ _ u⟩;have:=S.out.set p (Nat.testBit k j) (.bool (Nat.testBit k j)) rfl;rw [Ew E1] at this;rw [<- uH,<- uG] at this;exact this
     case measure=>exact bH
    ·have U:j=d:=O
     rw [<- M];go_upto_region 9 with fail;have hd0:uu w.heap.size ps k (.slice (some ⟨g,0,none⟩) ps.length ps.length) wr:=⟨g,Nat.le_trans h.size u,rfl,by rw [<- M,<- U];exact S⟩;have jk:=HJ.out k _ _ JK y;have bk:Below w.heap.size w wr:=h.out.grown y h.size nofun;have BK:=ab bk;obtain ⟨fn,hf,H,hm,hy,hR⟩:=HY.out k _ wr jk hd0 hlt;clear bk jk hd0 lg i c2;refine (wpIn_wide (n:=m+1)).1 ?_;gi_wp2
     refine hR.mono ?_;rintro e W3 (⟨rfl,E,a⟩ | ⟨rfl,f⟩)
     ·have J3:=ab E;have B3:=ab (BK.trans a);clear E a;gi_wp2
      go_wp2;go_roundw
      case rel=>exact ⟨k+1,O,zN,J3,B3⟩
      case measure=>exact bH
     ·have X3:=ab f;clear f;gi_wp2
      go_wp2;refine ⟨rfl,.tuple #[],by simp [results,Tryz.results62,go_sem],⟨_,rfl⟩,.inr X3⟩
  ·have C:k=N:=O
   rw [<- C];have JN:=JK;rw [C] at JN;go_wp2;refine ⟨rfl,.tuple #[],by simp [results,Tryz.results62,go_sem],⟨_,rfl⟩,.inl JN⟩
attribute [local simp] CL nk
def aU:List aA->Nat->Nat->Int×Int
 | [],_,_=>(0,0)
 | p :: r,i,c=>if p.kind=2∨p.kind=3∨p.kind=6∨p.kind=7 then (3,(i:Int)) else if p.kind=8 then (if 6<c+1 then (2,(i:Int)) else aU r (i+1) (c+1)) else aU r (i+1) c
def aM (nodes:Int) (ps:List aA):Int×Int:=if (fs nodes ps).1=0 then aU ps 0 0 else fs nodes ps
def DcR (W:World) (ps:List aA) (cv iv:Value) (wr:World):Prop:=∃ i c:Nat,i<=ps.length/\c<=6/\cv=.int .i64 c/\iv=.int .i64 i/\aU (ps.drop i) i c=aU ps 0 0/\W.grownBy wr none
def nq (nodes:Int) (B:Option Addr) (D:Nat) (ps:List aA) (w:World) (hb:kn w) (r:aB w (.slice B ps.length D) ps) :
  Calls Tryz.prog 7 #[.agg #[.int .i64 nodes,.slice B ps.length D]] w fun e w'=>e=.returned (.agg #[.int .i64 (aM nodes ps).1,.int .i64 (aM nodes ps).2])/\w.grownBy w' none:=by
 have X:ps.length<=9223372036854775807:=by obtain ⟨_,_,_,h1,h2,_⟩:=id r;unfold maxLen at h2;omega
 have HB:=ab hb;have Y:=ab r;clear hb r;obtain ⟨C,P⟩:=eX (aM nodes ps);have HC:=ab P;rw [<- P];clear P;obtain ⟨W,H⟩:=eX ((w.alloc (Obj.cells #[.int .i64 nodes,.slice B ps.length D] 24)).alloc (Obj.cells #[.int .i64 0,.int .i64 0] 29));have n:Hid (w.grownBy W none):=by rw [H];exact ag (ag (ae _ _) _) _
 have E:Hid (∀ wr:World,W.grownBy wr none->wr.cell? ⟨w.heap.size+1,0,none⟩=some (.int .i64 0)/\wr.cell? ⟨w.heap.size+1,1,none⟩=some (.int .i64 0)/\(∀ i,wr.frozen? ⟨w.heap.size+1,i,none⟩=false)/\wr.cell? ⟨w.heap.size,0,none⟩=some (.int .i64 nodes)/\wr.cell? ⟨w.heap.size,1,none⟩=some (.slice B ps.length D)):=by
  intro wr hg;rw [H] at hg;have:=mQ hg;exact ⟨by simpa using this.1,by simpa using this.2.1,by simpa using this.2.2,hg.cell zG Z,hg.cell zG Z⟩
 go_enter Tryz.func7,Tryz.ntmps7
 go_upto_region 1 with fail;rw [<- H];clear H;have n0:=(E W (ae _ _)).2.2.2;go_wp2_with fail;refine (CI nodes _ ps W (HB.keep n) (Y.keep n)).mono ?_;obtain ⟨m,s,Q⟩:∃ m s,fs nodes ps=(m,s):=⟨_,_,rfl⟩;unfold pB;rw [Q];rintro e w1 ⟨rfl,g1⟩;have t:=ab Q;clear Q;go_upto_region 2 with fail;obtain ⟨I,g⟩:=eX (w1.alloc (Obj.cells #[.int .i64 m,.int .i64 s] 29));have o:Hid (W.grownBy I none):=by rw [g];exact ag g1 _
 have s0:I.cell? ⟨w1.heap.size,0,none⟩=some (.int .i64 m):=by rw [g];go_simp
 have s1:I.cell? ⟨w1.heap.size,1,none⟩=some (.int .i64 s):=by rw [g];go_simp
 rw [<- g];obtain ⟨q,r1,S,n1⟩:=E.out I o;have J:=S 0;have K:=S 1;clear g1 n0 g S;by_cases F:m=0
 ·have u:Hid (aU ps 0 0=C):=by rw [HC];unfold aM;rw [t];exact ab (if_pos F).symm
  subst F;go_upto_region 5 with fail;go_wp2;go_loopw [4,16] (fun cv iv wr=>Hid (DcR W ps cv iv wr)) (fun _ iv _=>ps.length-(intOf iv).toNat)
  case atStart=>exact ⟨0,0,O,O,rfl,rfl,rfl,o⟩
  case round =>
   obtain ⟨i,c,hi,hc,rfl,rfl,hs,hg⟩:=hrel.out;have HS:=ab hs;have G:=ab hg;clear hs hg hrel n1 q r1 J K s0 s1;have n1:=E.out wr G;have y:=n1.2.2.1 0;have z:=n1.2.2.1 1;by_cases hlt:i<ps.length
   ·obtain ⟨b,off,rfl,rc,T⟩:=Y.out.row (aa n G) hlt;have A:Hid (aU (ps[i] :: ps.drop (i+1)) i c=aU ps 0 0):=by rw [<- List.drop_eq_getElem_cons hlt];exact HS
    obtain ⟨p,r⟩:=eX (ps[i]);rw [<- r] at rc A;clear r T;have M:p.kind=2∨p.kind=3∨p.kind=6∨p.kind=7∨(p.kind=8/\¬ (p.kind=2∨p.kind=3∨p.kind=6∨p.kind=7))∨(¬ p.kind=8/\¬ (p.kind=2∨p.kind=3∨p.kind=6∨p.kind=7)):=O
    go_upto_region 8 with fail;obtain ⟨U,l⟩:=eX (wr.alloc (Obj.cells #[.int .i64 p.kind,.int .i64 p.a,.int .i64 p.b,.int .i64 p.c,.int .i64 p.d,.string p.v] 55));have f:Hid (W.grownBy U none):=by rw [l];exact ag G _
    have pb:nk U wr.heap.size p:=ie wr p 55 (by rw [l];exact ae _ _);rw [<- l];clear l rc n1 y z;have n1:=E.out U f;have y:=n1.2.2.1 0;have z:=n1.2.2.1 1;obtain ⟨q,r1,_,m0,m1⟩:=n1;obtain ⟨V,b1,b2,b3,b4,b5⟩:=pb;rcases M with h | h | h | h | ⟨h,hn⟩ | ⟨h,hn⟩
    case inl | inr.inl | inr.inr.inl | inr.inr.inr.inl =>
     have j:Hid (C=(3,(i:Int))):=by
      show _=_
      rw [<- u,<- A,aU,if_pos O]
     rw [h] at V;go_wp2;refine bodyPost_ret (v:=.agg #[.int .i64 3,.int .i64 i]) (by simp [results,Tryz.results7,go_sem,q,r1]) rfl ⟨by rw [j],ah (ah (aa n f) _ _ Z) _ _ Z⟩
    ·by_cases h6:c=6
     ·have j:Hid (C=(2,(i:Int))):=by
       show _=_
       rw [<- u,<- A,aU,if_neg hn,if_pos h,if_pos O]
      rw [h] at V;subst h6;go_wp2;refine bodyPost_ret (v:=.agg #[.int .i64 2,.int .i64 i]) (by simp [results,Tryz.results7,go_sem,q,r1]) rfl ⟨by rw [j],ah (ah (aa n f) _ _ Z) _ _ Z⟩
     ·have j:Hid (aU (ps.drop (i+1)) (i+1) (c+1)=aU ps 0 0):=by
       show _=_
       rw [<- A,aU,if_neg hn,if_pos h,if_neg O]
      have N:¬ (6:Int)<(c:Int)+1:=O
      rw [h] at V;go_wp2;go_roundw
      case rel=>exact ⟨i+1,c+1,O,O,zN,zN,j,f⟩
      case measure=>exact bH
    ·have j:Hid (aU (ps.drop (i+1)) (i+1) c=aU ps 0 0):=by
      show _=_
      rw [<- A,aU,if_neg hn,if_neg h]
     have he:¬ p.kind=2:=fun e=>hn (.inl e)
     have hf:¬ p.kind=3:=fun e=>hn (.inr (.inl e))
     have hj:¬ p.kind=6:=fun e=>hn (.inr (.inr (.inl e)))
     have hl:¬ p.kind=7:=fun e=>hn (.inr (.inr (.inr e)))
     have N:¬ (6:Int)<(c:Int):=O
     clear hn;go_wp2;go_roundw
     case rel=>exact ⟨i+1,c,O,O,rfl,zN,j,f⟩
     case measure=>exact bH
   ·obtain ⟨q,r1,_,m0,m1⟩:=n1;have j:Hid (C=(0,0)):=by
     show _=_
     rw [<- u,<- HS,List.drop_eq_nil_of_le O];rfl
    go_wp2;refine bodyPost_ret (v:=.agg #[.int .i64 0,.int .i64 0]) (by simp [results,Tryz.results7,go_sem,q,r1]) rfl ⟨by rw [j],ah (ah (aa n G) _ _ Z) _ _ Z⟩
 ·have u:Hid ((m,s)=C):=by rw [HC];unfold aM;rw [t];exact ab (if_neg F).symm
  have hd:(m != 0)=true:=by simpa using F
  go_wp2;refine bodyPost_ret (v:=.agg #[.int .i64 m,.int .i64 s]) (by simp [results,Tryz.results7,go_sem,q,r1]) rfl ⟨by rw [<- u],ah (ah (aa n o) _ _ Z) _ _ Z⟩
open Go Go.RowKit
def n9 : ∀ {ps:List aA} {i:Nat},(cK nodes ps i).1=0->∀ p∈ps,dI p nodes=0
 | [],_,_,p,hp=>by cases hp
 | q :: r,i,h,p,hp=>by
  by_cases hq:dI q nodes=0
  ·rw [cK,if_pos hq] at h;rcases List.mem_cons.1 hp with rfl | hp
   ·exact hq
   ·exact n9 h p hp
  ·rw [cK,if_neg hq] at h;exact absurd h hq
theorem l8:∀ {ps:List aA} {i c:Nat},(aU ps i c).1=0->(∀ p∈ps,¬ (p.kind=2∨p.kind=3∨p.kind=6∨p.kind=7))/\(c<=6->c+(ps.filter fun p=>decide (p.kind=8)).length<=6)
 | [],_,_,_=>⟨fun p hp=>(by cases hp),fun h=>h⟩
 | p :: r,i,c,h=>by
  unfold aU at h;split at h
  ·simp at h
  ·rename_i h1;split at h
   ·rename_i h8;split at h
    ·simp at h
    ·rename_i hc;obtain ⟨a,b⟩:=l8 h;refine ⟨fun q hq=>?_,fun _=>?_⟩
     ·rcases List.mem_cons.1 hq with rfl | hq
      ·exact h1
      ·exact a q hq
     ·have:=b (by omega);rw [List.filter_cons,if_pos (by simpa using h8),List.length_cons];omega
   ·rename_i h8;obtain ⟨a,b⟩:=l8 h;refine ⟨fun q hq=>?_,fun hc=>?_⟩
    ·rcases List.mem_cons.1 hq with rfl | hq
     ·exact h1
     ·exact a q hq
    ·have:=b hc;rw [List.filter_cons,if_neg (by simpa using h8)];exact this
def Dn (ps:List aA):∀ n,n<=ps.length->(aX ps n).length=((ps.take n).filter fun p=>decide (p.kind=8)).length:=by
 intro n;induction n with
 | zero=>intro _;simp [aX]
 | succ n ih =>
  intro h;have e:=ih O;have hn:n<ps.length:=O
  unfold aX at e ⊢;rw [List.range_succ,List.filter_append,List.length_append,e,List.take_add_one,List.filter_append,List.length_append,zX hn];congr 1
  by_cases c:ps[n].kind=8
  ·simp [zX hn,c]
  ·simp [zX hn,c]
def ofR_nil:fI []=0:=by unfold fI;decide
def wh {v:ByteArray} (h:¬ kM v<=0):0<fI v.data.toList:=by
 unfold kM at h;rw [Et] at h;generalize fI v.data.toList=q at h ⊢;unfold lQ at h;by_cases hb:rB q=true
 ·rw [if_pos hb] at h;exact absurd zD h
 ·rw [if_neg hb] at h;by_cases a:rN q=0
  ·rw [if_pos a] at h;exact absurd zD h
  ·unfold rB at hb;unfold rN at a;have b:0<=q:=Rat.num_nonneg.1 (by
    have c:¬ (q.num<0):=fun hh=>hb (decide_eq_true hh)
    omega)
   rcases Rat.le_iff_lt_or_eq.1 b with h | h
   ·exact h
   ·rw [<- h] at a;exact absurd rfl a
def dio_of {p:aA} (h:dI p nodes=0) (m:¬ (p.kind=2∨p.kind=3∨p.kind=6∨p.kind=7)) :
  CJ p/\ft p.a nodes=true/\ft p.b nodes=true/\p.c=0/\p.d=0:=by
 unfold dI at h;split at h
 ·exact absurd h zD
 ·rename_i n;unfold kT at h;split at h
  ·exact absurd h zD
  ·rename_i f;split at h
   ·exact absurd h zD
   ·rename_i j;split at h
    ·exact absurd h zD
    ·rename_i g;have l:lK p.kind.toNat=false:=by
      have:p.kind=1∨p.kind=4∨p.kind=5∨p.kind=8:=O
      rcases this with e | e | e | e<;>rw [e]<;>rfl
     rw [l] at f g;simp only [Bool.or_eq_true,Bool.and_eq_true,Bool.not_eq_true',not_or,not_and,Bool.not_eq_false,decide_eq_true_eq,bne_iff_ne,ne_eq,Decidable.not_not] at f j g;refine ⟨?_,f.1.1,f.1.2,g.1 trivial⟩;have:p.kind=1∨p.kind=4∨p.kind=5∨p.kind=8:=O
     rcases this with e | e | e | e
     ·exact .inl ⟨e,wh (j (by rw [e];rfl))⟩
     ·exact .inr (.inl e)
     ·exact .inr (.inr (.inl e))
     ·refine .inr (.inr (.inr ⟨e,?_⟩));have i:=g.2 (by rw [e];rfl);unfold aA.q;rw [List.isEmpty_iff] at i;rw [i];exact ofR_nil
def kZ (h:(aM nodes ps).1=0):cH nodes.toNat ps/\nodes=(nodes.toNat:Int)/\ps.length<=16/\(∀ p∈ps,CJ p)/\(aX ps ps.length).length<=6:=by
 unfold aM at h;split at h
 ·rename_i hc;unfold fs at hc;split at hc
  ·exact absurd hc zD
  ·rename_i m;obtain ⟨s1,s2⟩:=l8 h;have e:=fun p f=>dio_of (n9 hc p f) (s1 p f)
   refine ⟨⟨O,O,O,fun p f=>?_⟩,O,O,fun p f=>(e p f).1,?_⟩
   ·obtain ⟨_,ha,hb,hc,hd⟩:=e p f;have g:∀ x,ft x nodes=true->0<=x/\x<nodes:=by
     intro x i;unfold ft at i;rw [Bool.and_eq_true,decide_eq_true_eq,decide_eq_true_eq] at i;exact i
    have j:=g _ ha;have l:=g _ hb;exact ⟨p.a.toNat,p.b.toNat,p.c.toNat,p.d.toNat,O,O,O,O,O,O,O,O⟩
   ·rw [Dn ps _ zL,List.take_length];have:=s2 O;omega
 ·rename_i hc;exact absurd h hc
def qY (h:(aM nodes ps).1=0):aM nodes ps=(0,0):=by
 have a:∀ (qs:List aA) (i c:Nat),(aU qs i c).1=0->aU qs i c=(0,0):=by
  intro qs;induction qs with
  | nil=>intro i c _;rfl
  | cons p r ih =>
   intro i c h;unfold aU at h ⊢;split at h
   ·simp at h
   ·rename_i d;rw [if_neg d];split at h
    ·rename_i b;rw [if_pos b];split at h
     ·simp at h
     ·rename_i hc;rw [if_neg hc];exact ih _ _ h
    ·rename_i b;rw [if_neg b];exact ih _ _ h
 unfold aM at h ⊢;split at h
 ·rename_i hc;rw [if_pos hc];exact a _ _ _ h
 ·rename_i hc;exact absurd h hc
def bV.keepR {b:Nat} {v:Value} (h:bV w base v k R L) (hg:aK w w' b) (hb:v.ownBlock≠some b):bV w' base v k R L:=by
 have i:=h.fresh;obtain ⟨xs,j,l,m⟩:=h;refine ⟨xs,⟨j.1,?_⟩,fun k f=>(l k f).keep (i k f).2 hg.1 (fun e=>hb (by rw [f,e])),m.kept hg.2⟩;rcases j.2 with h | ⟨g,cap,a,rfl,c,d,rest⟩
 ·exact .inl h
 ·exact .inr ⟨g,cap,a,rfl,c,by rw [hg.1.block g (i g rfl).2 (fun e=>hb (by rw [<- e];rfl))];exact d,rest⟩
def tX (w:World) (g o:Nat):List Value->World
 | []=>w
 | y :: ys=>tX (w.setCell ⟨g,o,none⟩ y) g (o+1) ys
def mj (xs:List Value) (o:Nat):List Value->List Value
 | []=>xs
 | y :: ys=>mj (xs.set o y) (o+1) ys
def qE (ys:List Value):∀ (xs:List Value) (o:Nat),(mj xs o ys).length=xs.length:=by
 induction ys with
 | nil=>intro xs o;rfl
 | cons y ys ih=>intro xs o;rw [mj,ih,List.length_set]
def Ck (ys:List Value):∀ (xs:List Value) (o m:Nat),(mj xs o ys).take m=mj (xs.take m) o ys:=by
 induction ys with
 | nil=>intro xs o m;rfl
 | cons y ys ih=>intro xs o m;rw [mj,mj,ih,List.take_set]
def ju (ys:List Value):∀ (xs:List Value) (o j:Nat),o+ys.length<=xs.length->(mj xs o ys)[j]? = if o<=j/\j<o+ys.length then ys[j-o]? else xs[j]?:=by
 induction ys with
 | nil=>intro xs o j _;rw [mj,if_neg (by rw [List.length_nil];omega)]
 | cons y ys ih =>
  intro xs o j h;rw [List.length_cons] at h;rw [mj,ih _ _ _ (by rw [List.length_set];omega),List.length_cons];by_cases b:j=o
  ·subst b;rw [if_neg O,if_pos O,List.getElem?_set_self O,Nat.sub_self];rfl
  ·by_cases a:o<=j/\j<o+(ys.length+1)
   ·rw [if_pos O,if_pos a,show j-o=(j-(o+1))+1 by omega,List.getElem?_cons_succ]
   ·rw [if_neg O,if_neg a,List.getElem?_set_ne O]
def FB (ys:List Value):∀ (xs:List Value) (o:Nat) (u:Value),u∈mj xs o ys->u∈xs∨u∈ys:=by
 induction ys with
 | nil=>intro xs o u h;exact .inl h
 | cons y ys ih =>
  intro xs o u h;rcases ih _ _ _ h with h | h
  ·rcases List.mem_or_eq_of_mem_set h with h | rfl
   ·exact .inl h
   ·exact .inr (List.mem_cons_self ..)
  ·exact .inr (List.mem_cons_of_mem _ h)
def sK (g:Nat) (T:TypeId) (ys:List Value):∀ (w:World) (o:Nat) (cur:Array Value),w.heap[g]? = some (.cells cur T (0,0))->(∀ u∈cur.toList,∀ x:Nat,u≠.int .u32 (x:Nat))->(∀ u∈ys,∀ x:Nat,u≠.int .u32 (x:Nat)) ->
  aK w (tX w g o ys) g/\(tX w g o ys).heap[g]? = some (.cells (mj cur.toList o ys).toArray T (0,0)):=by
 induction ys with
 | nil=>intro w o cur h _ _;exact ⟨aK.refl _ _,by simpa [tX,mj] using h⟩
 | cons y ys ih =>
  intro w o cur h hn hy;have f:=heap_setCell_same w g o cur T y h;have d:∀ u∈(cur.setIfInBounds o y).toList,∀ x:Nat,u≠.int .u32 (x:Nat):=by
   intro u c;rw [Array.toList_setIfInBounds] at c;rcases List.mem_or_eq_of_mem_set c with c | rfl
   ·exact hn u c
   ·exact hy _ (List.mem_cons_self ..)
  obtain ⟨a,b⟩:=ih _ (o+1) _ f d (fun u c=>hy u (List.mem_cons_of_mem _ c));refine ⟨(aK.set h (fun x e=>?_) y).trans a,?_⟩
  ·rw [<- Array.getElem?_toList] at e;exact hn _ (List.mem_of_getElem? e) x rfl
  ·rw [tX,b,Array.toList_setIfInBounds,mj]
def Ae (R:Nat->Rat) (i:Nat) (S:Nat->Rat):Nat->Rat:=fun j=>if i*4<=j/\j<i*4+4 then S (j-i*4) else R j
def bV.put {g cap:Nat} {S:Nat->Rat} {ys:List Value} (h:bV w base (.slice (some ⟨g,0,none⟩) k cap) k R L) (hy:fp w ys 4 S L) {i:Nat} (hi:i<k):bV (tX w g (i*12) ys) base (.slice (some ⟨g,0,none⟩) k cap) k (Ae R i S) L/\aK w (tX w g (i*12) ys) g:=by
 obtain ⟨xs,B,G,m⟩:=h;rcases B.2 with ⟨e,_⟩ | ⟨I,C,n,e,o,hg,p,r,s,c⟩
 ·simp at e
 ·simp only [Value.slice.injEq,zI,Addr.mk.injEq,true_and,and_true] at e;obtain ⟨rfl,rfl⟩:=e;have f:=(G g rfl).all hg;have l:=fun u hu=>(hy.mem u hu).2
  obtain ⟨a,b⟩:=sK g _ ys w (i*12) n hg f l;have E:ys.length=12:=hy.1;have F:xs.length=k*12:=by have:=m.1;omega
  refine ⟨⟨mj xs (i*12) ys,⟨by rw [qE];exact B.1,.inr ⟨g,cap,_,rfl,o,b,p,r,by rw [List.size_toArray,qE,Array.length_toList];exact s,by rw [Ck,c]⟩⟩,fun q D=>?_,?_,fun j H=>?_⟩,a⟩
  ·simp only [Value.ownBlock,zI] at D;subst D;refine xB.cells b (fun u hu=>?_);rcases FB _ _ _ _ hu with hu | hu
   ·exact f u hu
   ·exact l u hu
  ·rw [qE];exact m.1
  ·unfold Ae;by_cases hc:i*4<=j/\j<i*4+4
   ·rw [if_pos hc];obtain ⟨t,v,y,d,z,A,c0,c1,c2,c3⟩:=hy.2 (j-i*4) O;refine ⟨t,v,y,d,z,A,?_,?_,?_,c3.kept a.2⟩
    ·rw [ju _ _ _ _ O,if_pos O,show j*3-i*12=(j-i*4)*3 by omega];exact c0
    ·rw [ju _ _ _ _ O,if_pos O,show j*3+1-i*12=(j-i*4)*3+1 by omega];exact c1
    ·rw [ju _ _ _ _ O,if_pos O,show j*3+2-i*12=(j-i*4)*3+2 by omega];exact c2
   ·rw [if_neg hc];obtain ⟨t,v,y,d,z,A,c0,c1,c2,c3⟩:=m.2 j H;refine ⟨t,v,y,d,z,A,?_,?_,?_,c3.kept a.2⟩
    ·rw [ju _ _ _ _ O,if_neg O];exact c0
    ·rw [ju _ _ _ _ O,if_neg O];exact c1
    ·rw [ju _ _ _ _ O,if_neg O];exact c2
def uq {P:Program} {W:World} {b:Array Oper} {rest:List Oper} {o:Oper} {a:Act} {Q:Exit->Act->World->Prop} {v0 v1 d:Value}
  (hg:o.guard=none) (s x:Operand) (t:TypeId) (ho:o.op=.call { callee:=.builtin .append,args:=#[s,x],argTypes:=#[t,t] }) (hs:a.eval s=v0) (hx:a.eval x=v1) (hr:(Builtin.append_ #[t,t] o.type #[v0,v1]).run P W=.ok d w')
  (hK:wpList P b Q rest (a.put o.dst d) w'):wpList P b Q (o :: rest) a W:=by
 refine wpList_plain hg fun _ c=>?_
 unfold Oper.wp execOp;simp only [ho,resolve,invoke,builtin,Sem.run_bind,Sem.run_pure,Result.andThen_ok,List.map_toArray,List.map_cons,List.map_nil,hs,hx,hr];exact c _ _ hK
def yp (J:Nat) (v:Value) (k:Nat) (R:Nat->Rat) (L:Nat) (w:World) (h:bV w J v k R L) (hn:k=0->v=.slice none 0 0) (hk:k<=1000) :
  Calls Tryz.prog 60 #[v] w fun e w'=>∃ v',e=.returned v'/\bV w' w.heap.size v' k R L/\w.grownBy w' none:=by
 obtain ⟨xs,s,T,t⟩:=h;rcases s.2 with ⟨rfl,rfl⟩ | ⟨g,cap,U,rfl,V,hg,X,y,z,d⟩
 ·have K:∀ W,(binOp .eql 117 (.slice none 0 0) (.slice none 0 0)).run Tryz.prog W=.ok (.bool true) W:=fun W=>Lib.run_eql_slice_nil W _ _ none _ _ 0 0 Tryz.underlying117
  go_enter Tryz.func60,Tryz.ntmps60
  go_wp2;go_ret;exact ⟨_,rfl,si,ae _ _⟩
 ·have a:∀ j u,xs[j]? = some u->w.cell? ⟨g,j,none⟩=some u:=by
   intro j u i;have l:=(zY i).1;rw [<- d,List.getElem?_take,if_pos (by rw [s.1] at l;omega),Array.getElem?_toList] at i;simp only [World.cell?,hg];exact i
  have m:0<k:=by
   rcases zP k with A | A
   ·exact absurd (hn A) Z
   ·exact A
  have M:=ab a;have N:=ab t;have G:=ab (fun u f=>(t.mem u f));have n:=y;unfold maxLen at n;clear T t a hg d z;obtain ⟨Y,hi,B,C,D⟩:=info_parts Tryz.infoLaw;have K:∀ W,(binOp .eql 117 (.slice (some ⟨g,0,none⟩) k cap) (.slice none 0 0)).run Tryz.prog W=.ok (.bool false) W:=fun W=>Lib.run_eql_slice_nil W _ _ (some _) _ _ 0 0 Tryz.underlying117
  have o:∃ v' w',(Builtin.append_ #[117,117] 117 #[.slice (some ⟨w.heap.size,0,none⟩) 0 0,.slice (some ⟨g,0,none⟩) k cap]).run Tryz.prog (w.alloc (Obj.cells #[] 116))=.ok v' w'/\bV w' w.heap.size v' k R L/\w.grownBy w' none:=by
   have p:w.grownBy (w.alloc (Obj.cells #[] 116)) none:=ag (ae _ _) _;obtain ⟨v',w',E,a2,a3,a4,a5⟩:=kJ (P:=Tryz.prog) (w.alloc (Obj.cells #[] 116)) w.heap.size 117 117 116 Y _ 12 224 Tryz.underlying117 hi B C D rfl zD
    (fun j x i=>by
     have hc:j=0∨j=1∨j=2∨j=3∨j=4∨j=5∨j=6∨j=7∨j=8∨j=9∨j=10∨j=11:=O
     rcases hc with rfl | rfl | rfl | rfl | rfl | rfl | rfl | rfl | rfl | rfl | rfl | rfl<;>(intro e;cases e))
    (.slice (some ⟨w.heap.size,0,none⟩) 0 0) 0 [] (World.ownsRow_made w #[] 0 zL (by unfold maxLen;omega) Z) (fun q I=>by
     simp only [Value.ownBlock,zI] at I;subst I;exact xB.cells (heap_alloc_new w _) (fun u f=>by simp at f)) (fun u f=>by simp at f) ⟨g,0,none⟩ k cap xs s.1 m (fun j u i=>by rw [show (⟨g,0,none⟩:Addr).add j=⟨g,j,none⟩ from by unfold Addr.add;by_cases h:j=0<;>simp [h]];exact p.cell (M j u i) Z) (fun u f=>(G u f).1) (fun u f=>(G u f).2) (by unfold maxLen;omega) O Z
   refine ⟨v',w',E,⟨xs,by simpa using a2,a4,N.kept ((aO.of_gr p).trans a5)⟩,aw (r:=none) p a3 (fun _ _ e=>e) (fun b hb e=>?_)⟩;simp only [Value.ownBlock,zI] at e;omega
  obtain ⟨v',w',E,F,H⟩:=o;have Q:=ab F;have S:=ab H;obtain ⟨ao,c,rfl⟩:=F.shape;clear F H;go_enter Tryz.func60,Tryz.ntmps60
  go_wp2_with (at_builtin;refine uq rfl _ _ 117 rfl rfl rfl E ?_)
  go_wp2;go_ret;exact ⟨_,rfl,Q,S⟩
attribute [local simp] fU bL eJ dP CL nk
abbrev lV (w:World) (g:Nat) (x0 x1 x2 x3 x4 x5 x6 x7 x8 x9 x10 x11:Value):Prop:=bL w g x0 x1 x2/\(w.cell? ⟨g,3,none⟩=some x3/\w.cell? ⟨g,4,none⟩=some x4/\w.cell? ⟨g,5,none⟩=some x5)/\(w.cell? ⟨g,6,none⟩=some x6/\w.cell? ⟨g,7,none⟩=some x7/\w.cell? ⟨g,8,none⟩=some x8)/\(w.cell? ⟨g,9,none⟩=some x9/\w.cell? ⟨g,10,none⟩=some x10/\w.cell? ⟨g,11,none⟩=some x11)
def lV.k0 {g:Nat} (h:lV w g x0 x1 x2 x3 x4 x5 x6 x7 x8 x9 x10 x11) (k:w.grownBy w' none):lV w' g x0 x1 x2 x3 x4 x5 x6 x7 x8 x9 x10 x11:=by
 obtain ⟨⟨c,d,e⟩,⟨f,i,j⟩,⟨l,m,n⟩,o,a,b⟩:=h;exact ⟨⟨k.cell c Z,k.cell d Z,k.cell e Z⟩,⟨k.cell f Z,k.cell i Z,k.cell j Z⟩,⟨k.cell l Z,k.cell m Z,k.cell n Z⟩,k.cell o Z,k.cell a Z,k.cell b Z⟩
def mJ {w0:World} {T:TypeId} (k:(w0.alloc (Obj.cells #[x0,x1,x2,x3,x4,x5,x6,x7,x8,x9,x10,x11] T)).grownBy w none):lV w w0.heap.size x0 x1 x2 x3 x4 x5 x6 x7 x8 x9 x10 x11 :=
 lV.k0 (w:=w0.alloc _) ⟨⟨zG,zG,zG⟩,⟨zG,zG,zG⟩,⟨zG,zG,zG⟩,zG,zG,zG⟩ k
def r9 {w0:World} {o:Obj} {T:TypeId} (k:((w0.alloc o).alloc (Obj.cells #[x0,x1,x2,x3,x4,x5,x6,x7,x8,x9,x10,x11] T)).grownBy w none):lV w (w0.heap.size+1) x0 x1 x2 x3 x4 x5 x6 x7 x8 x9 x10 x11:=by
 have h:=mJ k;rw [World.size_alloc] at h;exact h
def zO {g:Nat} {T:TypeId} (h:w.heap[g]? = some (Obj.cells #[x0,x1,x2,x3,x4,x5,x6,x7,x8,x9,x10,x11] T (0,0))):lV w g x0 x1 x2 x3 x4 x5 x6 x7 x8 x9 x10 x11:=by
 simp [lV,bL,World.cell?,h]
def laws_at (h:Bool) (i b:Option Addr) (fl fc d f:Nat) (w:World) :
  Calls Tryz.prog 58 #[(kh h (.slice i fl fc) (.slice b d f)),.agg #[.bool false,.slice none 0 0,.slice none 0 0]] w fun e w' =>
   ∃ bf bop bs bz:Nat,e=.returned (.func (.func 93) #[] #[.pointer (some ⟨bf,0,none⟩),.pointer (some ⟨bop,0,none⟩),.pointer (some ⟨bs,0,none⟩)])/\(bL w' bf (.bool h) (.slice i fl fc) (.slice b d f)/\fU w' bf)
    /\ w'.cell? ⟨bop,0,none⟩=some (.func (.func 92) #[] #[.pointer (some ⟨bf,0,none⟩),.pointer (some ⟨bz,0,none⟩)])/\bL w' bs (.bool false) (.slice none 0 0) (.slice none 0 0)/\bL w' bz (.bool false) (.slice none 0 0) (.slice none 0 0)/\w.grownBy w' none:=by
 obtain ⟨W,g⟩:=eX (((w.alloc (Obj.cells #[.bool h,.slice i fl fc,.slice b d f,.func (.func 84) #[] #[],.func (.func 85) #[] #[],.func (.func 86) #[] #[],.func (.func 87) #[] #[],.func (.func 88) #[] #[],.func (.func 89) #[] #[],.func (.func 90) #[] #[],.func (.func 91) #[] #[]] 111)).alloc (Obj.cells #[.bool false,.slice none 0 0,.slice none 0 0] 105)).alloc (Obj.cells #[.bool false,.slice none 0 0,.slice none 0 0] 105));have j:Hid (w.grownBy W none):=by rw [g];exact ag (ag (ag (ae _ _) _) _) _
 have l:W.heap.size=w.heap.size+3:=by rw [g];simp
 have m:Hid (∀ wx,W.grownBy wx none->(bL wx w.heap.size (.bool h) (.slice i fl fc) (.slice b d f)/\fU wx w.heap.size)/\bL wx (w.heap.size+1) (.bool false) (.slice none 0 0) (.slice none 0 0)/\bL wx (w.heap.size+1+1) (.bool false) (.slice none 0 0) (.slice none 0 0)):=by
  intro wx hg;obtain ⟨f1,o⟩:=kC h i b fl fc d f (w:=W) (w0:=w) (by rw [g];exact ag (ag (ae _ _) _) _);exact ⟨⟨o.k0 hg,f1.k0 hg⟩,bL.k0 (w:=W) (by rw [g];exact ⟨zG,zG,zG⟩) hg,bL.k0 (w:=W) (by rw [g];exact ⟨zG,zG,zG⟩) hg⟩
 have p:∀ (n:Nat) (c:Array Value) (a:Addr) (wx:World),(store a (.func (.func n) #[] c)).run Tryz.prog wx=stored Tryz.prog wx a (.func (.func n) #[] c) .plain:=fun n c a wx=>run_store _ _ _ _ _ rfl
 go_enter Tryz.func58,Tryz.ntmps58
 go_upto_region 2 with fail;rw [<- g];clear g;go_wp2;go_ret;have c:=m.out _ (ag (ae W _) (Obj.cells #[Value.func (.func 92) #[] #[.pointer (some ⟨w.heap.size,0,none⟩),.pointer (some ⟨w.heap.size+1+1,0,none⟩)]] 106));refine ⟨w.heap.size,w.heap.size+3,w.heap.size+1,w.heap.size+1+1,rfl,c.1,?_,c.2.1,c.2.2,aa j (ag (ae _ _) _)⟩;rw [<- l];have hn:=heap_alloc_new W (Obj.cells #[Value.func (.func 92) #[] #[.pointer (some ⟨w.heap.size,0,none⟩),.pointer (some ⟨w.heap.size+1+1,0,none⟩)]] 106);simp only [World.cell?,hn];rfl
attribute [local simp] fU bL eJ dP CL nk lV
def nN (w:World) (fv:Value) (n:Nat) (po:Option Addr) (pc:Nat) (ps:List aA) (L:Nat):Prop :=
 ∃ (go gj gf gn base:Nat) (v:Value) (fb:Bool) (fo fo2:Option Addr) (fl fc fl2 fc2:Nat),fv=.func (.func 59) #[] #[.pointer (some ⟨go,0,none⟩),.pointer (some ⟨gj,0,none⟩),.pointer (some ⟨gf,0,none⟩),.pointer (some ⟨gn,0,none⟩)]
  /\ w.cell? ⟨go,0,none⟩=some v/\bV w base v ps.length (ib ps) L/\(ps.length=0->v=.slice none 0 0)
  /\ lV w gj (.bool fb) (.slice fo fl fc) (.slice fo2 fl2 fc2) (.bool false) (.slice none 0 0) (.slice none 0 0) (.bool false) (.slice none 0 0) (.slice none 0 0) (.bool false) (.slice none 0 0) (.slice none 0 0)
  /\ FQ w (.agg #[.bool fb,.slice fo fl fc,.slice fo2 fl2 fc2]) 1 L/\(bL w gf (.bool fb) (.slice fo fl fc) (.slice fo2 fl2 fc2)/\fU w gf)/\dP w gn (.int .i64 (n:Nat)) (.slice po ps.length pc)
def nN.keep0 {d:Value} {n:Nat} {f:Option Addr} {g:Nat} (h:nN w d n f g ps L) (k:w.grownBy w' none):nN w' d n f g ps L:=by
 obtain ⟨j,l,gf,m,base,v,o,p,a,fl,fc,b,c,e,q,r,s,t,u,i,y⟩:=h;exact ⟨j,l,gf,m,base,v,o,p,a,fl,fc,b,c,e,k.cell q Z,r.keep0 k,s,t.k0 k,u.keep0 k,⟨i.1.k0 k,i.2.k0 k⟩,y.k0 k⟩
def LwB (w:World) (g:Nat) (qa qf ql qs:Rat) (L:Nat):Prop:=∃ o0 l0 c0 o1 l1 c1 o2 l2 c2 o3 l3 c3 o4 l4 c4 o5 l5 c5 o6 l6 c6 o7 l7 c7,lV w g (.bool (rB qa)) (.slice o0 l0 c0) (.slice o1 l1 c1) (.bool (rB qf)) (.slice o2 l2 c2) (.slice o3 l3 c3) (.bool (rB ql)) (.slice o4 l4 c4) (.slice o5 l5 c5) (.bool (rB qs)) (.slice o6 l6 c6) (.slice o7 l7 c7)
 /\ FQ w (.agg #[.bool (rB qa),.slice o0 l0 c0,.slice o1 l1 c1]) qa L/\FQ w (.agg #[.bool (rB qf),.slice o2 l2 c2,.slice o3 l3 c3]) qf L/\FQ w (.agg #[.bool (rB ql),.slice o4 l4 c4,.slice o5 l5 c5]) ql L/\FQ w (.agg #[.bool (rB qs),.slice o6 l6 c6,.slice o7 l7 c7]) qs L
def AnR (W:World) (ps:List aA) (L:Nat) (iv:Value) (wr:World):Prop :=
 ∃ (i:Nat) (v:Value),i<=ps.length/\iv=.int .i64 i/\mq wr W.heap.size 117 v/\bV wr (W.heap.size+1) v i (ib ps) L/\(i=0->v=.slice none 0 0)/\W.grownBy wr none
def xE (n:Nat) (po:Option Addr) (pc:Nat) (ps:List aA) (mm:Int) (L:Nat) (w:World) (he:w.cell? ⟨2,0,none⟩=some (.int .i64 mm)) (S:aB w (.slice po ps.length pc) ps) (hn:ps.length<=1000) (hq:∀ p∈ps,p.kind=8->p.q=0) (hs:∀ p∈ps,p.v.size+2<=L) (hL:L<=100000000) (hz:2<=L) :
  Calls Tryz.prog 34 #[.agg #[.int .i64 (n:Nat),.slice po ps.length pc]] w fun e w'=>∃ fv,e=.returned fv/\nN w' fv n po pc ps L/\w.grownBy w' none:=by
 have hf:=ab he;have HP:=ab S;have HQ:=ab hq;have HS:=ab hs;clear he S hq hs;obtain ⟨W,hW⟩:=eX (w.alloc (Obj.cells #[.int .i64 (n:Nat),.slice po ps.length pc] 24));have GW:Hid (w.grownBy W none):=by rw [hW];exact ag (ae _ _) _
 have NC:Hid (∀ wx,W.grownBy wx none->dP wx w.heap.size (.int .i64 (n:Nat)) (.slice po ps.length pc)):=by
  intro wx hg;exact dP.k0 (w:=W) (by rw [hW];exact ⟨zG,zG⟩) hg
 go_enter Tryz.func34,Tryz.ntmps34
 go_upto_region 1 with fail;rw [<- hW];clear hW;obtain ⟨gn,ho⟩:=eX w.heap.size;rw [<- ho] at NC ⊢;clear ho;have sf:∀ (n:Nat) (c:Array Value) (a:Addr) (wx:World),(store a (.func (.func n) #[] c)).run Tryz.prog wx=stored Tryz.prog wx a (.func (.func n) #[] c) .plain:=fun n c a wx=>run_store _ _ _ _ _ rfl
 go_wp2_with fail;refine (tC mm _ (GW.cell hf Z)).mono ?_;rintro e w1 ⟨m,fl,fc,f,g,l,rfl,F,G⟩;have K1:=ab (F.mono hz);have G1:=ab G;clear F G;go_upto_region 2 with fail;obtain ⟨w2,z⟩:=eX (w1.alloc (Obj.cells #[.bool false,.slice m fl fc,.slice f g l,.func (.func 84) #[] #[],.func (.func 85) #[] #[],.func (.func 86) #[] #[],.func (.func 87) #[] #[],.func (.func 88) #[] #[],.func (.func 89) #[] #[],.func (.func 90) #[] #[],.func (.func 91) #[] #[]] 111));have G2:Hid (W.grownBy w2 none):=by rw [z];exact ag G1 _
 have K2:Hid (FQ w2 (.agg #[.bool false,.slice m fl fc,.slice f g l]) 1 L):=K1.out.keep0 (by rw [z];exact ag (ae _ _) _);have FC:Hid (∀ wx,w2.grownBy wx none->bL wx w1.heap.size (.bool false) (.slice m fl fc) (.slice f g l)/\fU wx w1.heap.size):=by
  intro wx hg;obtain ⟨f1,f2⟩:=kC false m f fl fc g l (w:=wx) (w0:=w1) (T:=111) (by rw [<- z];exact hg);exact ⟨f2,f1⟩
 rw [<- z];clear z K1;obtain ⟨gf,hr⟩:=eX w1.heap.size;rw [<- hr] at FC ⊢;clear hr;have s0:=FC.out w2 (ae _ _);go_wp2_with fail;refine (laws_at false m f fl fc g l _).mono ?_;rintro e w3 ⟨bf,hH,bs,bz,rfl,c1,c2,c3,c4,g3⟩;have G3:=ab (aa G2 g3);have GF:=ab g3;have M:=ab c1;have C2:=ab c2;have C3:=ab c3;have C4:=ab c4;clear c1 c2 c3 c4 s0 g3;have s0:=FC.out w3 GF;go_upto_region 3 with fail;go_cut [5,6] (fun s5 s6 wx=>Hid (∃ gj gg:Nat,s5=.pointer (some ⟨gj,0,none⟩)/\s6=.pointer (some ⟨gg,0,none⟩)/\w3.grownBy wx none
  /\ lV wx gj (.bool false) (.slice m fl fc) (.slice f g l) (.bool false) (.slice none 0 0) (.slice none 0 0) (.bool false) (.slice none 0 0) (.slice none 0 0) (.bool false) (.slice none 0 0) (.slice none 0 0)
  /\ lV wx gg (.bool false) (.slice none 0 0) (.slice none 0 0) (.bool false) (.slice m fl fc) (.slice f g l) (.bool false) (.slice none 0 0) (.slice none 0 0) (.bool false) (.slice none 0 0) (.slice none 0 0)))
 case first =>
  obtain ⟨s0,s1,s2⟩:=s0.1;go_region_held3 (fun w'=>w'.cell? ⟨gf,0,none⟩=some (.bool false)/\w'.cell? ⟨gf,1,none⟩=some (.slice m fl fc)/\w'.cell? ⟨gf,2,none⟩=some (.slice f g l)) (go_keep) (fail)
  all_goals (go_wp2_with fail;go_meet)
  ·exact ab ⟨_,_,rfl,rfl,ak (ag (ag (ae _ _) _) _) 1,mJ (w0:=w3) (ak (ag (ae _ _) _) 1),r9 aC⟩
  ·exact ab ⟨_,_,rfl,rfl,ak (ag (ag (ae _ _) _) _) 1,r9 aC,mJ (w0:=w3) (ak (ag (ae _ _) _) 1)⟩
 case rest =>
  obtain ⟨gj,gg,rfl,rfl,y,hv,hw⟩:=hcut.out;have HJ:=ab hv;have hA:=ab hw;have U:=ab (aa G3 y);have hk:=ab (aa GF y);have M:=ab (And.intro (M.1.k0 y) (M.2.k0 y));have C2:=ab (y.cell C2 Z);have C3:=ab (C3.k0 y);have C4:=ab (C4.k0 y);have K5:=ab (K2.keep0 hk);clear hcut y hv hw s0 G3 GF G2;have V:=NC.out wc U;go_upto_region 5 with fail;obtain ⟨wb,H⟩:=eX (wc.alloc (Obj.cells #[.slice none 0 0] 117));have GB:Hid (wc.grownBy wb none):=by rw [H];exact ag (ae _ _) _
  have B0:Hid (mq wb wc.heap.size 117 (.slice none 0 0)):=by rw [H];exact heap_alloc_new wc _
  rw [<- H];clear H V;have V:=NC.out wb (aa U GB);go_wp2;go_loopw [24] (fun iv wr=>Hid (AnR wc ps L iv wr)) (fun iv _=>ps.length-(intOf iv).toNat)
  case atStart=>exact ⟨0,_,O,rfl,B0,si,fun _=>rfl,GB⟩
  case round =>
   obtain ⟨i,v,hi,rfl,b1,X,e1,g1⟩:=hrel.out;have BX:=ab b1;have OW:=ab X;have EV:=ab e1;have D:=ab g1;clear b1 X e1 g1 hrel V;have V:=NC.out wr (aa U D);have cb:=BX.out.cells;by_cases hlt:i<ps.length
   ·obtain ⟨b,off,rfl,rc,hsz⟩:=HP.out.row (aa (aa GW U) D) hlt;obtain ⟨p,S⟩:=eX (ps[i]);have N:=ab S;rw [<- S] at rc;clear S hsz;go_upto_region 8 with fail;obtain ⟨o,A⟩:=eX wr.heap.size;obtain ⟨w4,B⟩:=eX (wr.alloc (Obj.cells #[.int .i64 p.kind,.int .i64 p.a,.int .i64 p.b,.int .i64 p.c,.int .i64 p.d,.string p.v] 55));have G4:Hid (wr.grownBy w4 none):=by rw [B];exact ag (ae _ _) _
    have PB:Hid (nk w4 o p):=by rw [A];exact ie wr p 55 (by rw [B];exact ae _ _)
    have hl:w4.heap.size=o+1:=by rw [B,A];simp
    have hB:Hid (wr.heap.size<=o):=Nat.le_of_eq A.symm;rw [<- B,<- A];obtain ⟨⟨x0,x1,x2⟩,⟨x3,x4,x5⟩,⟨x6,x7,x8⟩,x9,x10,x11⟩:=hA.out.k0 (aa D G4);clear B A rc V cb;go_upto_region 9 with fail;obtain ⟨K,t⟩:=eX (w4.alloc (Obj.cells #[.bool false,.slice none 0 0,.slice none 0 0,.bool false,.slice m fl fc,.slice f g l,.bool false,.slice none 0 0,.slice none 0 0,.bool false,.slice none 0 0,.slice none 0 0] 116));have GD:Hid (wr.grownBy K none):=by rw [t];exact ag G4 _
    have PD:Hid (nk K o p):=PB.out.k0 (by rw [t];exact ag (ae _ _) _);have LC:Hid (lV K (o+1) (.bool false) (.slice none 0 0) (.slice none 0 0) (.bool false) (.slice m fl fc) (.slice f g l) (.bool false) (.slice none 0 0) (.slice none 0 0) (.bool false) (.slice none 0 0) (.slice none 0 0)):=by rw [<- hl,t];exact mJ (ae _ _)
    have hm:K.heap[o+1]? = some (Obj.cells #[.bool false,.slice none 0 0,.slice none 0 0,.bool false,.slice m fl fc,.slice f g l,.bool false,.slice none 0 0,.slice none 0 0,.bool false,.slice none 0 0,.slice none 0 0] 116 (0,0)):=by rw [<- hl,t];exact heap_alloc_new _ _
    rw [<- t];clear t x0 x1 x2 x3 x4 x5 x6 x7 x8 x9 x10 x11 PB G4;obtain ⟨b0,b1,b2,b3,b4,b5⟩:=PD.out;have LB:Hid (K.heap[o+1]? = some (Obj.cells #[.bool false,.slice none 0 0,.slice none 0 0,.bool false,.slice m fl fc,.slice f g l,.bool false,.slice none 0 0,.slice none 0 0,.bool false,.slice none 0 0,.slice none 0 0] 116 (0,0))):=hm;clear hm;by_cases h8:p.kind=8
    case' pos =>
     have hg:=HQ.out p (by rw [N];exact List.getElem_mem hlt) h8;have e:bO p.kind p.q=0/\bP p.kind p.q=1/\cA p.kind p.q=0/\bQ p.kind p.q=0:=by rw [h8,hg];simp [bO,bP,cA,bQ]
     have fin:Hid (LwB K (o+1) (bO p.kind p.q) (bP p.kind p.q) (cA p.kind p.q) (bQ p.kind p.q) L/\wr.grownBy K none):=by
      rw [e.1,e.2.1,e.2.2.1,e.2.2.2];exact ⟨⟨_,_,_,_,_,_,_,_,_,_,_,_,_,_,_,_,_,_,_,_,_,_,_,_,LC,bj _ _,K5.keep0 (aa D GD),bj _ _,bj _ _⟩,GD⟩
     clear e;rw [h8] at b0;clear h8 hg;go_upto_region 11 with fail;refine cG (fun wx=>LwB wx (o+1) (bO p.kind p.q) (bP p.kind p.q) (cA p.kind p.q) (bQ p.kind p.q) L/\wr.grownBy wx none) fin (fun wx hx=>?_);clear fin b0 b1 b2 b3 b4 b5
    case' neg =>
     have hI:(p.kind != 8)=true:=by simpa using h8
     have E:=aa D GD;have hsz:=HS.out p (by rw [N];exact List.getElem_mem hlt);go_wp2_with fail;refine (law_at false m f fl fc g l p bf hH bs bz mm L K ((aa (aa GW U) E).cell hf Z) ⟨(M.1.k0 E).1,(M.1.k0 E).2.1,(M.1.k0 E).2.2,M.2.k0 E⟩ (K5.keep0 E) (E.cell C2 Z) (C3.k0 E) (C4.k0 E) O hL).mono ?_;rintro e w5 ⟨u1,d1,u2,d2,u3,d3,u4,d4,rfl,F,G,Y,k4,y⟩;obtain ⟨o0,l0,c0,X,l1,c1,e1⟩:=F.shape;obtain ⟨o2,l2,c2,o3,l3,c3,e2⟩:=G.shape;obtain ⟨o4,l4,c4,o5,l5,c5,e3⟩:=Y.shape;obtain ⟨o6,l6,hy,o7,l7,c7,e4⟩:=k4.shape;simp only [Value.agg.injEq,Array.mk.injEq,List.cons.injEq,and_true,true_and] at e1 e2 e3 e4;obtain ⟨rfl,rfl⟩:=e1;obtain ⟨rfl,rfl⟩:=e2;obtain ⟨rfl,rfl⟩:=e3;obtain ⟨rfl,rfl⟩:=e4;have h5:w5.heap[o+1]? = some (Obj.cells #[.bool false,.slice none 0 0,.slice none 0 0,.bool false,.slice m fl fc,.slice f g l,.bool false,.slice none 0 0,.slice none 0 0,.bool false,.slice none 0 0,.slice none 0 0] 116 (0,0)):=by rw [y.block _ (zZ LB).1 Z];exact LB
     have fin:Hid (∀ wx,wx=tX w5 (o+1) 0 [.bool (rB (bO p.kind p.q)),.slice o0 l0 c0,.slice X l1 c1,.bool (rB (bP p.kind p.q)),.slice o2 l2 c2,.slice o3 l3 c3,.bool (rB (cA p.kind p.q)),.slice o4 l4 c4,.slice o5 l5 c5,.bool (rB (bQ p.kind p.q)),.slice o6 l6 hy,.slice o7 l7 c7]->LwB wx (o+1) (bO p.kind p.q) (bP p.kind p.q) (cA p.kind p.q) (bQ p.kind p.q) L/\wr.grownBy wx none):=by
      rintro wx rfl;obtain ⟨a,b⟩:=sK (o+1) _ [.bool (rB (bO p.kind p.q)),.slice o0 l0 c0,.slice X l1 c1,.bool (rB (bP p.kind p.q)),.slice o2 l2 c2,.slice o3 l3 c3,.bool (rB (cA p.kind p.q)),.slice o4 l4 c4,.slice o5 l5 c5,.bool (rB (bQ p.kind p.q)),.slice o6 l6 hy,.slice o7 l7 c7] w5 0 _ h5 (fun u hu x e=>by subst e;simp at hu) (fun u hu x e=>by subst e;simp at hu);exact ⟨⟨_,_,_,_,_,_,_,_,_,_,_,_,_,_,_,_,_,_,_,_,_,_,_,_,zO b,FQ.kept F a.2,FQ.kept G a.2,FQ.kept Y a.2,FQ.kept k4 a.2⟩,aw (r:=none) (aa GD y) a.1 (fun _ _ e=>e) (fun b hb e=>by have:=zJ e;have:=hB.out;omega)⟩
     have s:∀ k,w5.frozen? ⟨o+1,k,none⟩=false:=fun k=>by simp [World.frozen?,h5]
     have f0:=s 0;have f1:=s 1;have f2:=s 2;have f3:=s 3;have f4:=s 4;have f5:=s 5;have f6:=s 6;have f7:=s 7;have f8:=s 8;have f9:=s 9;have hC:=s 10;have hD:=s 11;obtain ⟨⟨x0,x1,x2⟩,⟨x3,x4,x5⟩,⟨x6,x7,x8⟩,x9,x10,x11⟩:=zO h5;clear F G Y k4 y E h5 s b0 b1 b2 b3 b4 b5;go_upto_region 11 with fail;refine cG (fun wx=>LwB wx (o+1) (bO p.kind p.q) (bP p.kind p.q) (cA p.kind p.q) (bQ p.kind p.q) L/\wr.grownBy wx none) (fin _ rfl) (fun wx hx=>?_);clear fin f0 f1 f2 f3 f4 f5 f6 f7 f8 f9 hC hD x0 x1 x2 x3 x4 x5 x6 x7 x8 x9 x10 x11
    all_goals
     obtain ⟨⟨o0,l0,c0,X,l1,c1,o2,l2,c2,o3,l3,c3,o4,l4,c4,o5,l5,c5,o6,l6,c6,o7,l7,c7,lx,F,G,Y,k4⟩,C⟩:=hx;have hJ:=ab C;have KC:=ab (n8 F G Y k4);have OX:=ab (OW.keep0 C);have P:=ab (BX.keep C Z);obtain ⟨oa,oc,rfl⟩:=OW.out.shape;obtain ⟨⟨x0,x1,x2⟩,⟨x3,x4,x5⟩,⟨x6,x7,x8⟩,x9,x10,x11⟩:=lx;have cb:=P.out.cells.1;have hE:Hid (wc.grownBy wx none):=aa D C;have hF:Hid (wc.heap.size+1<=wx.heap.size):=by have:=P.out.lt;exact ab this
     clear F G Y k4 C;go_wp2_with (at_builtin;refine nM _ rfl _ _ 117 rfl (wc.heap.size+1) Tryz.underlying117 Tryz.infoLaw (.slice oa i oc) i (ib ps) L rfl (OX.keep0 (ag (ae _ _) _)) wx.heap.size 1 rfl _ _ _ _ _ (A9 _ _ _) (KC.kept (aO.of_gr (ag (ae _ _) _))) O (by simp;have:=hF.out;omega) ?_)
     intro ao I w5 J Q hG;have HN:Hid (some wc.heap.size≠(Value.slice oa i oc).ownBlock):=fun e=>by have:=(OX.fresh _ e.symm).1;omega
     have B6:=ab ((P.keep (ag (ae wx none) _) Z).keep Q HN);have O6:Hid (bV w5 (wc.heap.size+1) (.slice ao (i+1) I) (i+1) (ib ps) L):=J.congr (fun j hj=>by
      have:=Ei hlt j hj;rw [<- N] at this;exact this)
     have G6:Hid (wc.grownBy w5 none):=by
      refine aw (r:=none) (aa hE (ag (ae wx none) _)) Q (fun _ _ e=>e) (fun b hb e=>?_);have:=(OX.fresh b e.symm).1;omega
     have s6:=B6.out.set (.slice ao (i+1) I);have S6:=ab s6;obtain ⟨q0,q1⟩:=B6.out.cells;clear J Q hG s6 cb x0 x1 x2 x3 x4 x5 x6 x7 x8 x9 x10 x11;go_wp2;go_roundw
     case rel=>exact ⟨i+1,_,O,zN,S6.1,O6.keepR S6.2 (fun e=>by have:=(O6.fresh _ e).1;omega),fun h=>O,ah G6 _ _ zL⟩
     case measure=>exact bH
   ·obtain rfl:ps.length=i:=O
    have J6:=HJ.out.k0 D;go_wp2;go_ret;exact ⟨_,rfl,⟨_,_,_,_,_,v,false,m,f,fl,fc,g,l,rfl,cb.1,OW,EV,J6,K5.keep0 D,FC wr (aa hk D),V⟩,aa (aa GW U) D⟩
def Fw {n:Nat} {e:Ending} (b:cH n ps) (h:RulE w n ps.length (kG n ps) L e w'):NetE w n ps L e w':=by
 rcases h with ⟨v1,v2,X,rfl,r1,r2,a,c,d⟩ | ⟨rfl,a,d⟩ | ⟨rfl,a,d⟩
 ·refine .inl ⟨_,_,X,fun i=>X (n+i),rfl,r1,r2,((pf b X).1 a).2,fun q r hh=>?_,d⟩;obtain ⟨x,f,m,o⟩:=qH b hh;exact ⟨fun j hj=>by rw [<- m j hj];exact c x f j O,fun i hi=>by rw [<- o i hi];exact c x f (n+i) O⟩
 ·refine .inr (.inl ⟨rfl,?_,d⟩);rintro ⟨V,I,hh⟩;obtain ⟨x,p,_⟩:=qH b hh;exact a ⟨x,p⟩
 ·refine .inr (.inr ⟨rfl,?_,d⟩);obtain ⟨x,y,p,hy,j,hj,g⟩:=a;refine ⟨_,_,_,_,((pf b x).1 p).2,((pf b y).1 hy).2,?_⟩;by_cases l:j<n
  ·exact .inl ⟨j,l,g⟩
  ·exact .inr ⟨j-n,O,by show x (n+(j-n))≠y (n+(j-n));rw [show n+(j-n)=j by omega];exact g⟩
def Ch (n:Nat) (ps:List aA) (on:Nat->Bool) (R:Nat->Rat):iD n ps R=iD n (bu on ps) R:=by
 funext r
 unfold iD;by_cases a:r=0
 ·rw [if_pos a,if_pos a]
 ·rw [if_neg a,if_neg a];by_cases b:r<n
  ·rw [if_pos b,if_pos b];funext x
   unfold dO;by_cases c:x<n
   ·rw [if_pos c,if_pos c]
   ·rw [if_neg c,if_neg c];exact (m7 on ps (x-n) r).symm
  ·rw [if_neg b,if_neg b,du,dq];cases ps[r-n]? with
   | none=>rfl
   | some p =>
    obtain ⟨d,e,f,g,_⟩:=dt (on (r-n)) p;simp only [Option.map_some,d,e,f,g]
def se (n:Nat) (ps:List aA) (on:Nat->Bool):cS n (bu on ps)=cS n ps:=by
 funext r
 unfold cS;rw [du];cases ps[r-n]? with
 | none=>rfl
 | some p=>simp only [Option.map_some,(dt (on (r-n)) p).2.2.2.2]
def Ci (g:Bool) (h b:Option Addr) (fl fc c d:Nat) (n:Nat) (l:Option Addr) (m:Nat) (ps:List aA) (on:Nat->Bool) (o:Value) (L:Nat) (w:World)
  (h1:FQ w (.agg #[.bool g,.slice h fl fc,.slice b c d]) 1 L) (hp:aB w (.slice l ps.length m) ps) (hR:cH n ps) (hl:LwAt w o ps.length (ib (bu on ps)) L)
  (hLs:iG (cS n ps) (n+ps.length)<L) (hL:L<=49000000) :
  Calls Tryz.prog 61 #[(kh g (.slice h fl fc) (.slice b c d)),.agg #[.int .i64 ((n:Nat):Int),.slice l ps.length m],o] w fun e w'=>NetE w n (bu on ps) L e w':=by
 have p:=qz hR on;have s:=se n ps on;have a:=dq on ps;have f:iD n ps (ib (bu on ps))=kG n (bu on ps):=by rw [Ch n ps on,Fx]
 refine (Fy g h b fl fc c d n l m ps o (ib (bu on ps)) (cS n ps) L w h1 hp hR hl (fun i hi E F G H=>?_) (fun r z k j=>?_) (fun k r j=>?_) hLs hL).mono ?_
 ·have q:i<(bu on ps).length:=by rw [a];exact hi
  obtain ⟨u,C,y,D⟩:=oQ q;rw [u,y];have h1:=AG (cS n ps) (n+ps.length) (n+i) O;have A:cS n ps (n+i)=2*(ps[i].v.size+1)+1:=by
   unfold cS;rw [if_neg O,show n+i-n=i by omega,zX hi]
  have B:(bu on ps)[i].v.size=ps[i].v.size:=by rw [jx hi,(dt (on i) ps[i]).2.2.2.2]
  exact BY (tI _ _) (zH _ _) (bu on ps)[i].fit O
 ·rw [f];exact net_fit n (bu on ps) (n+ps.length) L (by rw [s];exact hLs) r z k j
 ·rw [f,<- s];exact net_wh n (bu on ps) k r j
 ·rw [f];intro e w' t;rw [<- a] at t;exact Fw p t
def rh (on:Nat->Bool) (ps:List aA) (i:Nat):Nat->Rat:=fun j=>if j / 4<i then ib (bu on ps) j else ib ps j
def Ea (on:Nat->Bool) (ps:List aA) (j:Nat) (h:j<ps.length*4):rh on ps ps.length j=ib (bu on ps) j:=if_pos O
def BB {i:Nat} (hi:i<ps.length) (a:on i=false∨ps[i].kind≠8) (j:Nat) (b:j / 4=i):ib (bu on ps) j=ib ps j:=by
 unfold ib;rw [b,du,zX hi];have e:bX (on i) ps[i]=ps[i]:=by
  unfold bX;refine if_neg (fun h=>?_);rcases a with a | a
  ·rw [a] at h;exact absurd h.2 Z
  ·exact a h.1
 simp only [Option.map_some,e]
def By {i:Nat} (hi:i<ps.length) (b:on i=false) (j:Nat):rh on ps i j=rh on ps (i+1) j:=by
 unfold rh;by_cases h:j / 4<i
 ·rw [if_pos h,if_pos O]
 ·rw [if_neg h];by_cases a:j / 4<i+1
  ·rw [if_pos a,BB hi (.inl b) j O]
  ·rw [if_neg a]
def joiR:Nat->Rat:=fun i=>if i=0 then 1 else if i=1 then 0 else if i=2 then 0 else 0
def Eb {i:Nat} (hi:i<ps.length) (g:on i=true) (l:ps[i].kind=8) (m:ps[i].q=0) (j:Nat):Ae (rh on ps i) i joiR j=rh on ps (i+1) j:=by
 unfold Ae rh;by_cases h:i*4<=j/\j<i*4+4
 ·rw [if_pos h,if_pos O];have a:i<(bu on ps).length:=by rw [dq];exact hi
  obtain ⟨c,d,e,f⟩:=oQ a;have n:(bu on ps)[i].kind=4:=by rw [jx hi];unfold bX;rw [if_pos ⟨l,g⟩]
  have o:(bu on ps)[i].q=0:=by
   rw [<- m];unfold aA.q;rw [jx hi,(dt (on i) ps[i]).2.2.2.2]
  rw [n,o] at c d e f;have hc:j=i*4∨j=i*4+1∨j=i*4+2∨j=i*4+3:=O
  rcases hc with rfl | rfl | rfl | rfl
  ·rw [c,Nat.sub_self];rfl
  ·rw [d,show i*4+1-i*4=1 by omega];rfl
  ·rw [e,show i*4+2-i*4=2 by omega];rfl
  ·rw [f,show i*4+3-i*4=3 by omega];rfl
 ·rw [if_neg h];by_cases b:j / 4<i
  ·rw [if_pos b,if_pos O]
  ·rw [if_neg b,if_neg O]
def Bz (on:Nat->Bool) (ps:List aA) (j:Nat):ib ps j=rh on ps 0 j:=(if_neg (Nat.not_lt_zero _)).symm
attribute [local simp] fU bL eJ dP
def BoAt (w:World) (v:Value) (k:Nat) (on:Nat->Bool):Prop:=∃ ao cap,v=.slice ao k cap/\k<=cap/\cap<=maxLen/\∀ i,i<k->∃ g off,ao=some ⟨g,off,none⟩/\w.cell? ⟨g,off+i,none⟩=some (.bool (on i))
def bV.free {g cap:Nat} (h:bV w base (.slice (some ⟨g,0,none⟩) k cap) k R L) (j:Nat):w.frozen? ⟨g,j,none⟩=false:=by
 obtain ⟨xs,b,f,i⟩:=h;rcases b.2 with ⟨e,_⟩ | ⟨l,a,c,e,d,hg,_⟩
 ·simp at e
 ·simp only [Value.slice.injEq,zI,Addr.mk.injEq,true_and,and_true] at e;obtain ⟨rfl,rfl⟩:=e;simp [World.frozen?,hg]
def Az {b:Nat} {a:Array Value} {e:TypeId} (hb:w.heap[b]? = some (.cells a e (0,0))) {y:Value} (hc:a=#[x,y]) (d:∀ z:Nat,x≠.int .u32 (z:Nat)) (f:∀ z:Nat,y≠.int .u32 (z:Nat)) (u v:Value) :
  aK w ((w.setCell ⟨b,0,none⟩ u).setCell ⟨b,1,none⟩ v) b:=by
 subst hc;have g:=heap_setCell_same w b 0 _ e u hb;refine (aK.set hb (fun z c=>?_) u).trans (aK.set g (fun z c=>?_) v)
 ·simp at c;exact d z c
 ·simp at c;exact f z c
def dj.keepB {b:Nat} {v:Value} {n:Nat} (h:dj w base v n R L) (g:aK w w' b) (hb:b<base):dj w' base v n R L:=by
 obtain ⟨a,c,e,d,f,i⟩:=h;refine ⟨a,c,e,d,f,fun o=>?_⟩;obtain ⟨k,j,l,m⟩:=i o;exact ⟨k,j,l,m.keep g.1 g.2 (fun e=>by have:=zJ e;omega)⟩
def AnJE (w:World) (n:Nat) (ps:List aA) (on:Nat->Bool) (L:Nat) (e:Ending) (w':World):Prop :=
 ∃ v1 v2 b,e=.returned (.tuple #[.agg #[v1,v2],.bool b])/\w.grownBy w' none
  /\ ((b=true/\∃ V I,dj w' w.heap.size v1 n V L/\dj w' w.heap.size v2 ps.length I L/\bd n (bu on ps) V I/\∀ V' I',bd n (bu on ps) V' I'->(∀ j,j<n->V' j=V j)/\∀ i,i<ps.length->I' i=I i)
   ∨ (b=false/\v1=.slice none 0 0/\v2=.slice none 0 0/\((¬ ∃ V I,bd n (bu on ps) V I)∨∃ V I V' I',bd n (bu on ps) V I/\bd n (bu on ps) V' I'/\((∃ j,j<n/\V j≠V' j)∨∃ i,i<ps.length/\I i≠I' i))))
def AnJR (W:World) (base:Nat) (on:Nat->Bool) (ps:List aA) (L:Nat) (v8 iv:Value) (wr:World):Prop :=
 ∃ i:Nat,i<=ps.length/\iv=.int .i64 i/\bV wr base v8 ps.length (rh on ps i) L/\W.grownBy wr none
def ansJ_at (n:Nat) (po:Option Addr) (pc:Nat) (ps:List aA) (on:Nat->Bool) (jv:Value) (go gj gf gn base:Nat) (v:Value) (fb:Bool) (D d:Option Addr) (fl fc f l:Nat) (L:Nat) (w:World)
  (h1:w.cell? ⟨go,0,none⟩=some v) (h2:bV w base v ps.length (ib ps) L) (h3:ps.length=0->v=.slice none 0 0)
  (h4:lV w gj (.bool fb) (.slice D fl fc) (.slice d f l) (.bool false) (.slice none 0 0) (.slice none 0 0) (.bool false) (.slice none 0 0) (.slice none 0 0) (.bool false) (.slice none 0 0) (.slice none 0 0))
  (h5:FQ w (.agg #[.bool fb,.slice D fl fc,.slice d f l]) 1 L) (h6:bL w gf (.bool fb) (.slice D fl fc) (.slice d f l)/\fU w gf) (h7:dP w gn (.int .i64 (n:Nat)) (.slice po ps.length pc))
  (hp:aB w (.slice po ps.length pc) ps) (hR:cH n ps) (hj:BoAt w jv ps.length on) (hon:∀ i (h:i<ps.length),on i=true->ps[i].kind=8) (hq:∀ p∈ps,p.kind=8->p.q=0) (hLs:iG (cS n ps) (n+ps.length)<L) (hL:L<=49000000) :
  Calls Tryz.prog 59 #[jv,.pointer (some ⟨go,0,none⟩),.pointer (some ⟨gj,0,none⟩),.pointer (some ⟨gf,0,none⟩),.pointer (some ⟨gn,0,none⟩)] w fun e w'=>AnJE w n ps on L e w':=by
 obtain rfl:fb=rB 1:=FV.parts h5;have E:rB 1=false:=zD
 rw [E] at h4 h5 h6;have hu:=hR.len;have H1:=ab h1;have H2:=ab h2;have H4:=ab h4;have H5:=ab h5;have H6:=ab h6;have H7:=ab h7;have HP:=ab hp;have HR:=ab hR;have he:=ab hon;have HQ:=ab hq;have hf:=ab hLs;obtain ⟨jo,jc,rfl,hx,hl,K⟩:=hj;have HJ:=ab K;unfold maxLen at hl;clear h1 h2 h4 h5 h6 h7 hp hR hon hq hLs K E;obtain ⟨W,M⟩:=eX (w.alloc (Obj.cells #[.slice none 0 0,.slice none 0 0] 81));have y:Hid (w.grownBy W none):=by rw [M];exact ag (ae _ _) _
 have F:Hid (W.heap.size=w.heap.size+1):=by show _=_;rw [M];simp
 have BX:Hid (∀ wx,W.grownBy wx none->wx.heap[w.heap.size]? = some (Obj.cells #[.slice none 0 0,.slice none 0 0] 81 (0,0))):=by
  intro wx hg;rw [hg.block w.heap.size (by rw [F];omega) Z,M];exact heap_alloc_new w _
 have c1:=y.out.cell H1 Z;go_enter Tryz.func59,Tryz.ntmps59
 go_upto_region 1 with fail;rw [<- M];clear M;go_wp2_with fail;refine (yp base v ps.length (ib ps) L W (H2.keep0 y) h3 O).mono ?_;rintro e w1 ⟨v8,rfl,B,N⟩;have O1:=ab (B.congr (fun j _=>Bz on ps j));have G1:=ab N;obtain ⟨ao,ac,rfl⟩:=B.shape;clear B N c1;go_wp2;go_loopw [17] (fun iv wr=>Hid (AnJR W W.heap.size on ps L (.slice ao ps.length ac) iv wr)) (fun iv _=>ps.length-(intOf iv).toNat)
 case atStart=>exact ⟨0,O,rfl,O1,G1⟩
 case round =>
  obtain ⟨i,hi,rfl,B,N⟩:=hrel.out;have c:=ab B;have o:=ab N;clear B N hrel O1 G1;by_cases hlt:i<ps.length
  ·obtain ⟨jg,hs,rfl,P⟩:=HJ.out i hlt;have G:=(aa y o).cell P Z;clear P;obtain ⟨hy,hz,e,hA,hm,hr⟩:=c.out.lw;simp only [Value.slice.injEq,true_and] at e;obtain ⟨rfl,rfl⟩:=e;obtain ⟨gl,rfl,hB,o0,l0,c0,B,l1,c1,o2,l2,c2,o3,l3,c3,o4,l4,c4,o5,l5,c5,o6,l6,c6,o7,l7,c7,⟨x0,x1,x2,x3,x4,x5,x6,x7,x8,x9,x10,x11⟩,_⟩:=hr i hlt;unfold maxLen at hm;by_cases C:on i=true
   ·rw [C] at G;have h8:=he.out i hlt C;have HE:Hid (∀ wx,wx=tX wr gl (i*12) [.bool false,.slice D fl fc,.slice d f l,.bool false,.slice none 0 0,.slice none 0 0,.bool false,.slice none 0 0,.slice none 0 0,.bool false,.slice none 0 0,.slice none 0 0]->bV wx W.heap.size (.slice (some ⟨gl,0,none⟩) ps.length ac) ps.length (rh on ps (i+1)) L/\W.grownBy wx none):=by
     rintro wx rfl;have GX:=aa y o;obtain ⟨a,b⟩:=c.out.put (S:=joiR) (n8 (w:=wr) (qa:=1) (qf:=0) (ql:=0) (qs:=0) (H5.keep0 GX) (bj _ _) (bj _ _) (bj _ _)) hlt;exact ⟨a.congr (fun j _=>Eb hlt C h8 (HQ _ (List.getElem_mem hlt) h8) j),aw (r:=none) o b.1 (fun _ _ e=>e) (fun b hb e=>by have:=(c.fresh b e.symm).1;omega)⟩
    have f0:=c.out.free (i*12);have f1:=c.out.free (i*12+1);have f2:=c.out.free (i*12+2);have f3:=c.out.free (i*12+3);have f4:=c.out.free (i*12+4);have f5:=c.out.free (i*12+5);have f6:=c.out.free (i*12+6);have f7:=c.out.free (i*12+7);have f8:=c.out.free (i*12+8);have f9:=c.out.free (i*12+9);have hv:=c.out.free (i*12+10);have hw:=c.out.free (i*12+11);obtain ⟨⟨y0,y1,y2⟩,⟨y3,y4,y5⟩,⟨y6,y7,y8⟩,y9,hC,hD⟩:=H4.out.k0 (aa y o);clear C h8;go_wp2;go_roundw
    case rel=>exact ⟨i+1,O,zN,(HE _ rfl).1,(HE _ rfl).2⟩
    case measure=>exact bH
   ·have A:on i=false:=by simpa using C
    rw [A] at G;have O2:=ab (c.congr (fun j _=>By hlt A j));clear C x0 x1 x2 x3 x4 x5 x6 x7 x8 x9 x10 x11 A;go_wp2;go_roundw
    case rel=>exact ⟨i+1,O,zN,O2,o⟩
    case measure=>exact bH
  ·obtain rfl:ps.length=i:=O
   have O2:=ab (c.congr (Ea on ps)).lw;have H:=ab (aa y o);obtain ⟨d0,d1⟩:=H6.out;have d0:=d0.k0 H;have d1:=d1.k0 H;have d2:=H7.out.k0 H;go_wp2_with fail;refine (Ci false D d fl fc f l n po pc ps on _ L wr (H5.keep0 H) (HP.keep H) HR O2 hf hL).mono ?_;have fin:Hid (∀ (w5:World) (v1 v2:Value),W.grownBy w5 none->aK w5 ((w5.setCell ⟨w.heap.size,0,none⟩ v1).setCell ⟨w.heap.size,1,none⟩ v2) w.heap.size/\w5.cell? ⟨w.heap.size,0,none⟩=some (.slice none 0 0)/\w5.cell? ⟨w.heap.size,1,none⟩=some (.slice none 0 0)/\w5.frozen? ⟨w.heap.size,0,none⟩=false/\w5.frozen? ⟨w.heap.size,1,none⟩=false):=by
    intro w5 v1 v2 g;have hb:=BX.out w5 g;exact ⟨Az hb rfl (fun z=>Z) (fun z=>Z) v1 v2,by simp [World.cell?,hb],by simp [World.cell?,hb],by simp [World.frozen?,hb],by simp [World.frozen?,hb]⟩
   have t:Hid (w.heap.size+1<=wr.heap.size):=by show _<=_;have:=o.out.size;have:=F.out;omega
   have m:Hid (∀ (w5:World) (v1 v2:Value),W.grownBy w5 none->w.grownBy ((w5.setCell ⟨w.heap.size,0,none⟩ v1).setCell ⟨w.heap.size,1,none⟩ v2) none):=fun w5 v1 v2 g=>aw (r:=none) (aa y g) (fin w5 v1 v2 g).1.1 (fun _ _ e=>e) (fun b hb e=>by have:=zJ e;omega)
   rintro e w5 (⟨v1,v2,V,I,rfl,r1,r2,s1,s2,u⟩ | ⟨rfl,s1,u⟩ | ⟨rfl,s1,u⟩)
   ·have s:=ab (aa o u);rw [dq] at r2 s2;have R1:=ab (r1.low (base':=w.heap.size+1) t);have R2:=ab (r2.low (base':=w.heap.size+1) t);obtain ⟨Q,T,rfl,_⟩:=id r1;obtain ⟨U,X,rfl,_⟩:=id r2;have J:=ab s1;have S2:=ab s2;obtain ⟨_,Y,z1,z2,z3⟩:=fin.out w5 (.slice none 0 0) (.slice none 0 0) s;clear r1 r2 s1 s2 u d0 d1 d2;go_wp2;refine bodyPost_ret (v:=.tuple #[.agg #[.slice Q n T,.slice U ps.length X],.bool true]) (by simp [results,Tryz.results59,go_sem,Y,z1]) rfl ?_;have hk:=(fin w5 (.slice Q n T) (.slice U ps.length X) s).1;exact ⟨_,_,_,rfl,m _ _ _ s,.inl ⟨rfl,V,I,(R1.keepB hk O).low O,(R2.keepB hk O).low O,J,S2⟩⟩
   ·have s:=ab (aa o u);have J:=ab s1;obtain ⟨_,Y,z1,z2,z3⟩:=fin.out w5 (.slice none 0 0) (.slice none 0 0) s;clear s1 u d0 d1 d2;go_wp2;refine bodyPost_ret (v:=.tuple #[.agg #[.slice none 0 0,.slice none 0 0],.bool false]) (by simp [results,Tryz.results59,go_sem,Y,z1]) rfl ?_;exact ⟨_,_,_,rfl,m _ _ _ s,.inr ⟨rfl,rfl,rfl,.inl J⟩⟩
   ·have s:=ab (aa o u);rw [dq] at s1;have J:=ab s1;obtain ⟨_,Y,z1,z2,z3⟩:=fin.out w5 (.slice none 0 0) (.slice none 0 0) s;clear s1 u d0 d1 d2;go_wp2;refine bodyPost_ret (v:=.tuple #[.agg #[.slice none 0 0,.slice none 0 0],.bool false]) (by simp [results,Tryz.results59,go_sem,Y,z1]) rfl ?_;exact ⟨_,_,_,rfl,m _ _ _ s,.inr ⟨rfl,rfl,rfl,.inr J⟩⟩
attribute [local simp] bL eJ dP CL nk
def jA (ps:List aA) (V I:Nat->Rat) (i:Nat):Prop:=∀ h:i<ps.length,ps[i].kind=8->0<=I i/\V ps[i].a.toNat-V ps[i].b.toNat<=0
def FitR (W:World) (ps:List aA) (V I:Nat->Rat) (iv:Value) (wr:World):Prop:=∃ i:Nat,i<=ps.length/\iv=.int .i64 i/\(∀ j,j<i->jA ps V I j)/\W.grownBy wr none
def wP (q:Rat):(q.num.sign<0)↔¬ 0<=q:=by
 rw [<- Rat.num_nonneg];rcases Int.lt_trichotomy q.num 0 with h | h | h
 ·rw [Int.sign_eq_neg_one_of_neg h];omega
 ·rw [h];simp
 ·rw [Int.sign_eq_one_of_pos h];omega
def uP (p q:Rat):(0<qX p q)↔¬ p-q<=0:=by
 unfold qX;by_cases h:p<q
 ·rw [if_pos h];constructor
  ·intro h;omega
  ·intro h2;exfalso;apply h2;grind
 ·rw [if_neg h];by_cases h2:q<p
  ·rw [if_pos h2];constructor
   ·intro _;grind
   ·intro _;omega
  ·rw [if_neg h2];constructor
   ·intro h;omega
   ·intro a;exfalso;apply a;grind
def Dj (n:Nat) (po:Option Addr) (pc:Nat) (ps:List aA) (V I:Nat->Rat) (v1 v2:Value) (b1 b2 L:Nat) (w:World) (h1:dj w b1 v1 n V L) (h2:dj w b2 v2 ps.length I L) (D:aB w (.slice po ps.length pc) ps) (hR:cH n ps) (hL:L<=100000000) :
  Calls Tryz.prog 36 #[.agg #[v1,v2],.agg #[.int .i64 (n:Nat),.slice po ps.length pc]] w fun e w'=>∃ b,e=.returned (.bool b)/\w.grownBy w' none/\(b=true↔∀ i,i<ps.length->jA ps V I i):=by
 have hx:=hR.lo;have hy:=hR.len;obtain ⟨hA,c1,rfl,hB,he,k1⟩:=h1;obtain ⟨f,rfl,_,r1⟩:=k1 O;obtain ⟨P,c2,rfl,hC,hl,k2⟩:=h2;have K1:=ab r1;have K2:=ab k2;have HP:=ab D;have HR:=ab hR;unfold maxLen at he hl;clear k1 r1 k2 D hR;obtain ⟨W,Q⟩:=eX ((w.alloc (Obj.cells #[.slice (some ⟨f,0,none⟩) n c1,.slice P ps.length c2] 81)).alloc (Obj.cells #[.int .i64 (n:Nat),.slice po ps.length pc] 24));have H:Hid (w.grownBy W none):=by rw [Q];exact ag (ag (ae _ _) _) _
 have NC:Hid (∀ wx,W.grownBy wx none->dP wx w.heap.size (.slice (some ⟨f,0,none⟩) n c1) (.slice P ps.length c2)/\dP wx (w.heap.size+1) (.int .i64 (n:Nat)) (.slice po ps.length pc)):=by
  intro wx hg;exact ⟨dP.k0 (w:=W) (by rw [Q];exact ⟨zG,zG⟩) hg,dP.k0 (w:=W) (by rw [Q];exact ⟨zG,zG⟩) hg⟩
 obtain ⟨n0,n1⟩:=NC.out W (ae _ _);go_enter Tryz.func36,Tryz.ntmps36
 go_upto_region 1 with fail;rw [<- Q];clear Q;go_wp2;go_loopw [10] (fun iv wr=>Hid (FitR W ps V I iv wr)) (fun iv _=>ps.length-(intOf iv).toNat)
 case atStart=>exact ⟨0,O,rfl,fun j h=>O,ae _ _⟩
 case round =>
  obtain ⟨i,hi,rfl,hf,hg⟩:=hrel.out;have HF:=ab hf;have y:=ab hg;clear hf hg hrel n0 n1;by_cases hlt:i<ps.length
  ·obtain ⟨b,off,rfl,rc,hm⟩:=HP.out.row (aa H y) hlt;obtain ⟨l,m,S,xd,ea,eb,ec,ed,ha,hb,hc,hd⟩:=HR.out.ends ps[i] (List.getElem_mem hlt);obtain ⟨p,D⟩:=eX (ps[i]);have r:=ab D;rw [<- D] at rc ea eb;have E:=ab (And.intro ea eb);clear D hm ec ed hc hd ea eb;obtain ⟨uo,ul,uc,vo,vl,vc,a0,a1,a2,a3,_⟩:=K1.out.at l ha;obtain ⟨xo,xl,S,yo,yl,yc,e0,e1,e2,e3,_⟩:=K1.out.at m hb;have J:=aa H y;have A3:=ab (a3.keep0 J);have E3:=ab (e3.keep0 J);obtain ⟨o,rfl,_,r2⟩:=K2.out O;obtain ⟨zo,zl,zc,qo,ql,qc,i0,i1,i2,i3,_⟩:=r2.at i hlt;have I3:=ab (i3.keep0 J);go_upto_region 4 with fail;obtain ⟨q,C⟩:=eX wr.heap.size;obtain ⟨T,u⟩:=eX (wr.alloc (Obj.cells #[.int .i64 p.kind,.int .i64 p.a,.int .i64 p.b,.int .i64 p.c,.int .i64 p.d,.string p.v] 55));have s:Hid (wr.grownBy T none):=by rw [u];exact ag (ae _ _) _
   have PB:Hid (nk T q p):=by rw [C];exact ie wr p 55 (by rw [u];exact ae _ _)
   rw [<- u,<- C];have M:Hid (∀ wx,T.grownBy wx none->wx.cell? ⟨f,l*3,none⟩=some (.bool (rB (V l)))/\wx.cell? ⟨f,l*3+1,none⟩=some (.slice uo ul uc)/\wx.cell? ⟨f,l*3+2,none⟩=some (.slice vo vl vc)/\wx.cell? ⟨f,m*3,none⟩=some (.bool (rB (V m)))/\wx.cell? ⟨f,m*3+1,none⟩=some (.slice xo xl S)/\wx.cell? ⟨f,m*3+2,none⟩=some (.slice yo yl yc)
    /\ wx.cell? ⟨o,i*3,none⟩=some (.bool (rB (I i)))/\wx.cell? ⟨o,i*3+1,none⟩=some (.slice zo zl zc)/\wx.cell? ⟨o,i*3+2,none⟩=some (.slice qo ql qc)
    /\ wx.cell? ⟨q,0,none⟩=some (.int .i64 p.kind)/\wx.cell? ⟨q,1,none⟩=some (.int .i64 l)/\wx.cell? ⟨q,2,none⟩=some (.int .i64 m)/\wx.cell? ⟨w.heap.size,0,none⟩=some (.slice (some ⟨f,0,none⟩) n c1)/\wx.cell? ⟨w.heap.size,1,none⟩=some (.slice (some ⟨o,0,none⟩) ps.length c2)):=by
    intro wx g;have t:=aa J (aa s g);have pb:=PB.out.k0 g;have nn:=(NC wx (aa y (aa s g))).1;rw [nk,E.1,E.2] at pb;exact ⟨t.cell a0 Z,t.cell a1 Z,t.cell a2 Z,t.cell e0 Z,t.cell e1 Z,t.cell e2 Z,t.cell i0 Z,t.cell i1 Z,t.cell i2 Z,pb.1,pb.2.1,pb.2.2.1,nn.1,nn.2⟩
   clear u C rc a0 a1 a2 a3 e0 e1 e2 e3 i0 i1 i2 i3 r2 PB J;have ho:(0:Int)<=((l:Nat):Int):=O
   have hq:((l:Nat):Int)<(n:Int):=O
   have hr:(0:Int)<=((m:Nat):Int):=O
   have hu:((m:Nat):Int)<(n:Int):=O
   have hv:(0:Int)<=((i:Nat):Int):=O
   have hw:((i:Nat):Int)<(ps.length:Int):=O
   by_cases F:p.kind=8
   ·rw [F] at M;obtain ⟨sg,U⟩:=eX ((I i).num.sign);have z:=ab U;obtain ⟨cm,X⟩:=eX (qX (V l) (V m));have A:=ab X;have N:=ab F;clear U X F;have s0:=M.out T (ae _ _);refine hd (fun w'=>w'.cell? ⟨f,l*3,none⟩=some (.bool (rB (V l)))/\w'.cell? ⟨f,l*3+1,none⟩=some (.slice uo ul uc)/\w'.cell? ⟨f,l*3+2,none⟩=some (.slice vo vl vc)/\w'.cell? ⟨f,m*3,none⟩=some (.bool (rB (V m)))/\w'.cell? ⟨f,m*3+1,none⟩=some (.slice xo xl S)/\w'.cell? ⟨f,m*3+2,none⟩=some (.slice yo yl yc)/\w'.cell? ⟨o,i*3,none⟩=some (.bool (rB (I i)))/\w'.cell? ⟨o,i*3+1,none⟩=some (.slice zo zl zc)/\w'.cell? ⟨o,i*3+2,none⟩=some (.slice qo ql qc)/\w'.cell? ⟨q,0,none⟩=some (.int .i64 8)/\w'.cell? ⟨q,1,none⟩=some (.int .i64 l)/\w'.cell? ⟨q,2,none⟩=some (.int .i64 m)/\w'.cell? ⟨w.heap.size,0,none⟩=some (.slice (some ⟨f,0,none⟩) n c1)/\w'.cell? ⟨w.heap.size,1,none⟩=some (.slice (some ⟨o,0,none⟩) ps.length c2)) (fun hHeld=>?_);refine tk 19 [(0,15,.pointer (some ⟨q,0,none⟩)),(1,16,.int .i64 8),(2,17,.bool true),(3,18,.bool true),(4,19,.pointer (some ⟨w.heap.size,1,none⟩)),(5,20,.slice (some ⟨o,0,none⟩) ps.length c2),(6,21,.int .i64 i),(7,22,.pointer (some ⟨o,i*3,none⟩)),(8,23,.agg #[.bool (rB (I i)),.slice zo zl zc,.slice qo ql qc])] ?_;try simp only [zU]
    refine cX 18 9 (fun K Y=>?_);simp only [ax,q4,q5,q6,q7];go_simp
    go_at_call 63
    refine (jj _ (I i) L _ (I3.keep0 (aa s (gx (ae _ _))))).mono ?_;rintro e wa ⟨rfl,ga⟩;rw [<- z];have G:=ab (aa aC ga);clear ga s0 hHeld;have s0:=M.out wa G;go_wp2_with fail;refine bk Y (fun hHeld=>?_);clear Y K;by_cases hs:sg<0
    ·refine tk 16 [(10,25,.bool true),(11,26,.bool true)] ?_;try simp only [zU]
     refine sk 2 [(12,27),(13,28),(14,29),(15,30),(16,31),(17,32),(18,33),(19,34),(20,35),(21,36),(22,37),(23,38),(24,39),(25,40)] ?_;refine tk 0 [(26,41,.bool true),(27,42,.bool true)] ?_;try simp only [zU]
     refine wpAnyH_done zK ?_ _;go_wp2;go_ret;exact ⟨false,rfl,aa H (aa y (aa s (by first | exact G | exact aa G aC))),fun h=>absurd h Z,fun h=>absurd ((h i hlt) hlt (by rw [<- r];exact N)).1 ((wP _).1 (by rw [<- z];exact hs))⟩
    ·refine tk 4 [(10,25,.bool false),(11,26,.bool false),(12,27,.pointer (some ⟨w.heap.size,0,none⟩)),(13,28,.slice (some ⟨f,0,none⟩) n c1),(14,29,.pointer (some ⟨q,1,none⟩)),(15,30,.int .i64 l),(16,31,.pointer (some ⟨f,l*3,none⟩)),(17,32,.agg #[.bool (rB (V l)),.slice uo ul uc,.slice vo vl vc]),(18,33,.pointer (some ⟨w.heap.size,0,none⟩)),(19,34,.slice (some ⟨f,0,none⟩) n c1),(20,35,.pointer (some ⟨q,2,none⟩)),(21,36,.int .i64 m),(22,37,.pointer (some ⟨f,m*3,none⟩)),(23,38,.agg #[.bool (rB (V m)),.slice xo xl S,.slice yo yl yc])] ?_;try simp only [zU]
     refine cX 3 24 (fun K Y=>?_);simp only [ax,q4,q5,q6,q7];go_simp
     go_at_call 64
     refine (uW _ _ (V l) (V m) L L _ (A3.keep0 (aa s G)) (E3.keep0 (aa s G)) O).mono ?_;rintro e wb ⟨rfl,gb⟩;rw [<- A];have GB:=ab (aa G gb);clear gb s0 hHeld;have s0:=M.out wb GB;go_wp2_with fail;refine bk Y (fun hHeld=>?_);clear Y K;by_cases hc:0<cm
     ·refine tk 0 [(25,40,.bool true),(26,41,.bool true),(27,42,.bool true)] ?_;try simp only [zU]
      refine wpAnyH_done zK ?_ _;go_wp2;go_ret;exact ⟨false,rfl,aa H (aa y (aa s (by first | exact GB | exact aa GB aC))),fun h=>absurd h Z,fun h=>absurd (by have:=((h i hlt) hlt (by rw [<- r];exact N)).2;rw [<- r,E.1,E.2,Int.toNat_natCast,Int.toNat_natCast] at this;exact this) ((uP _ _).1 (by rw [<- A];exact hc))⟩
     ·refine tk 0 [(25,40,.bool false),(26,41,.bool false),(27,42,.bool false)] ?_;try simp only [zU]
      refine wpAnyH_done zK ?_ _;go_wp2;go_roundw
      case rel=>exact ⟨i+1,O,zN,fun j hj=>by
       by_cases B:j=i
       ·subst B;exact fun h F=>⟨Decidable.not_not.1 (fun hh=>by have:=(wP _).2 hh;rw [<- z] at this;omega),by rw [<- r,E.1,E.2,Int.toNat_natCast,Int.toNat_natCast];exact Decidable.not_not.1 (fun hh=>by have:=(uP _ _).2 hh;rw [<- A] at this;omega)⟩
       ·exact HF j O,aa y (aa s GB)⟩
      case measure=>exact bH
   ·have hz:(p.kind==8)=false:=by simpa using F
    have s0:=M.out T (ae _ _);refine hd (fun w'=>w'.cell? ⟨f,l*3,none⟩=some (.bool (rB (V l)))/\w'.cell? ⟨f,l*3+1,none⟩=some (.slice uo ul uc)/\w'.cell? ⟨f,l*3+2,none⟩=some (.slice vo vl vc)/\w'.cell? ⟨f,m*3,none⟩=some (.bool (rB (V m)))/\w'.cell? ⟨f,m*3+1,none⟩=some (.slice xo xl S)/\w'.cell? ⟨f,m*3+2,none⟩=some (.slice yo yl yc)/\w'.cell? ⟨o,i*3,none⟩=some (.bool (rB (I i)))/\w'.cell? ⟨o,i*3+1,none⟩=some (.slice zo zl zc)/\w'.cell? ⟨o,i*3+2,none⟩=some (.slice qo ql qc)/\w'.cell? ⟨q,0,none⟩=some (.int .i64 p.kind)/\w'.cell? ⟨q,1,none⟩=some (.int .i64 l)/\w'.cell? ⟨q,2,none⟩=some (.int .i64 m)/\w'.cell? ⟨w.heap.size,0,none⟩=some (.slice (some ⟨f,0,none⟩) n c1)/\w'.cell? ⟨w.heap.size,1,none⟩=some (.slice (some ⟨o,0,none⟩) ps.length c2)) (fun hHeld=>?_);refine tk 24 [(0,15,.pointer (some ⟨q,0,none⟩)),(1,16,.int .i64 p.kind),(2,17,.bool false),(3,18,.bool false)] ?_;try simp only [zU]
    refine sk 1 [(4,19),(5,20),(6,21),(7,22),(8,23),(9,24),(10,25),(11,26),(12,27),(13,28),(14,29),(15,30),(16,31),(17,32),(18,33),(19,34),(20,35),(21,36),(22,37),(23,38),(24,39),(25,40),(26,41)] ?_;refine tk 0 [(27,42,.bool false)] ?_;try simp only [zU]
    refine wpAnyH_done zK ?_ _;go_wp2;go_roundw
    case rel=>exact ⟨i+1,O,zN,fun j hj=>by
     by_cases B:j=i
     ·subst B;exact fun h hk=>absurd (by rw [r];exact hk) F
     ·exact HF j O,aa y (aa s aC)⟩
    case measure=>exact bH
  ·obtain rfl:ps.length=i:=O
   go_wp2;go_ret;exact ⟨true,rfl,aa H y,fun _=>HF,fun _=>rfl⟩
attribute [local simp] bL eJ dP
def fE (w:World) (b:Nat) (T:TypeId) (u v:Value):Prop:=w.heap[b]? = some (Obj.cells #[u,v] T (0,0))
section
variable {w w':World} {b:Nat} {T:TypeId} {u v:Value}
def fE.lt (h:fE w b T u v):b<w.heap.size:=(zZ h).1
def fE.keep {r:Option Nat} (h:fE w b T u v) (g:w.grownBy w' r) (a:some b≠r):fE w' b T u v:=by
 have c:=h.lt;unfold fE at h ⊢;rw [g.block b c a,h]
def fE.cells (h:fE w b T u v):w.cell? ⟨b,0,none⟩=some u/\w.cell? ⟨b,1,none⟩=some v/\w.frozen? ⟨b,0,none⟩=false/\w.frozen? ⟨b,1,none⟩=false:=by
 unfold fE at h;exact ⟨by simp [World.cell?,h],by simp [World.cell?,h],by simp [World.frozen?,h],by simp [World.frozen?,h]⟩
def fE.set0 (h:fE w b T u v) (x:Value):fE (w.setCell ⟨b,0,none⟩ x) b T x v:=by
 unfold fE at h ⊢;rw [heap_setCell_same w b 0 _ _ _ h];rfl
def fE.set1 (h:fE w b T u v) (x:Value):fE (w.setCell ⟨b,1,none⟩ x) b T u x:=by
 unfold fE at h ⊢;rw [heap_setCell_same w b 1 _ _ _ h];rfl
end
def TeR0 (W:World) (n:Nat) (V:Nat->Rat) (iv:Value) (wr:World):Prop:=∃ (i:Nat) (v:Value),i<=n/\iv=.int .i64 i/\fE wr W.heap.size 33 v (.slice none 0 0)/\bM sv 50 wr (W.heap.size+1) v (aL V i)/\W.grownBy wr none
def TeR1 (W:World) (u:Value) (xs:List ByteArray) (S1:Nat) (n:Nat) (V:Nat->Rat) (iv:Value) (wr:World):Prop:=∃ (i:Nat) (v:Value),i<=n/\iv=.int .i64 i/\fE wr W.heap.size 33 u v/\bM sv 50 wr S1 v (aL V i)/\W.grownBy wr none/\bM sv 50 wr (W.heap.size+1) u xs/\S1<=wr.heap.size
def Dk (n k:Nat) (V I:Nat->Rat) (v1 v2:Value) (b1 b2 L:Nat) (w:World) (h1:dj w b1 v1 n V L) (h2:dj w b2 v2 k I L) (hn:n<=1000) (hk:k<=1000) (hL:L<=100000000) (ht:fG w) :
  Calls Tryz.prog 37 #[.agg #[v1,v2]] w fun e w'=>∃ u v,e=.returned (.agg #[u,v])/\(∃ o c,u=.slice o n c)/\w.grownBy w' none/\bM sv 50 w' w.heap.size u (aL V n)/\bM sv 50 w' w.heap.size v (aL I k):=by
 obtain ⟨ho,c1,rfl,hH,hD,k1⟩:=h1;obtain ⟨hp,c2,rfl,hI,hE,k2⟩:=h2;have K1:=ab k1;have K2:=ab k2;have HT:=ab ht;unfold maxLen at hD hE;clear k1 k2 ht;obtain ⟨a,C⟩:=eX ((w.alloc (Obj.cells #[.slice ho n c1,.slice hp k c2] 81)).alloc (Obj.cells #[.slice none 0 0,.slice none 0 0] 33));have G0:Hid (w.grownBy a none):=by rw [C];exact ag (ag (ae _ _) _) _
 have NC:Hid (∀ wx,a.grownBy wx none->dP wx w.heap.size (.slice ho n c1) (.slice hp k c2)):=by
  intro wx hg;exact dP.k0 (w:=a) (by rw [C];exact ⟨zG,zG⟩) hg
 have RB:Hid (fE a (w.heap.size+1) 33 (.slice none 0 0) (.slice none 0 0)):=by
  have:=heap_alloc_new (w.alloc (Obj.cells #[.slice ho n c1,.slice hp k c2] 81)) (Obj.cells #[.slice none 0 0,.slice none 0 0] 33);rw [World.size_alloc,<- C] at this;exact this
 have hA:Hid (a.heap.size=w.heap.size+2):=by show _=_;rw [C];simp
 go_enter Tryz.func37,Tryz.ntmps37
 go_upto_region 1 with fail;rw [<- C];clear C;go_upto_region 2 with fail;obtain ⟨W,hW⟩:=eX a;obtain ⟨wb,T⟩:=eX (a.alloc (Obj.cells #[.slice none 0 0,.slice none 0 0] 33));have B0:Hid (fE wb a.heap.size 33 (.slice none 0 0) (.slice none 0 0)):=by rw [T];exact heap_alloc_new a _
 have GB:Hid (a.grownBy wb none):=by rw [T];exact ag (ae _ _) _
 rw [<- T];clear T hW W;have n0:=NC.out wb GB;go_wp2;go_loopw [11] (fun iv wr=>Hid (TeR0 a n V iv wr)) (fun iv _=>n-(intOf iv).toNat)
 case atStart=>exact ⟨0,_,O,rfl,B0,fA,GB⟩
 case round =>
  obtain ⟨i,v,hi,rfl,b1,o1,g1⟩:=hrel.out;have H:=ab b1;have p:=ab o1;have A:=ab g1;clear b1 o1 g1 hrel n0;have n0:=NC.out wr A;have B:=H.out.cells;by_cases hlt:i<n
  ·obtain ⟨g,rfl,_,fr⟩:=K1.out O;obtain ⟨U,X,Y,h,dl,dc,a0,a1,a2,a3,_⟩:=(fr.keep0 (aa G0 A)).at i hlt;have A3:=ab a3;clear a3 fr;go_upto_region 5 with fail;obtain ⟨gx,l⟩:=eX wr.heap.size;obtain ⟨w4,m⟩:=eX (wr.alloc (Obj.cells #[.bool (rB (V i)),.slice U X Y,.slice h dl dc] 105));have t:Hid (wr.grownBy w4 none):=by rw [m];exact ag (ae _ _) _
   have XC:Hid (bL w4 gx (.bool (rB (V i))) (.slice U X Y) (.slice h dl dc)):=by rw [m,l];exact ⟨zG,zG,zG⟩
   have hf:Hid (wr.heap.size<=gx):=Nat.le_of_eq l.symm;have hB:Hid (a.heap.size<wr.heap.size):=H.out.lt;obtain ⟨D,E,rfl⟩:=p.out.shape;rw [aI] at p H;rw [<- m,<- l];clear m l a0 a1 a2 n0 B;have B4:=ab (H.keep t Z);have O4:=ab (p.keep0 t);have B:=B4.out.cells;have q:=XC.out;refine hdL (fun w'=>w'.cell? ⟨a.heap.size,0,none⟩=some (.slice D i E)/\w'.cell? ⟨gx,0,none⟩=some (.bool (rB (V i)))/\w'.cell? ⟨gx,1,none⟩=some (.slice U X Y)/\w'.cell? ⟨gx,2,none⟩=some (.slice h dl dc)) (fun j=>j==7) (fun hHeld=>?_);refine tkL 5 [(0,15,.pointer (some ⟨a.heap.size,0,none⟩)),(1,16,.slice D i E),(2,17,.agg #[.bool (rB (V i)),.slice U X Y,.slice h dl dc])] ?_;try simp only [zU]
   refine Ev 4 3 (fun K f=>?_);simp only [ax,q4,q5,q6,q7];go_simp
   go_at_call 65
   refine (fQ_at _ (V i) L _ (A3.keep0 (aa t aC)) O (HT.keep0 (aa G0 (aa A (aa t aC))))).mono ?_;rintro e s ⟨rfl,g5⟩;have J:=ab (aa aC g5);clear g5 hHeld B q;have B5:=ab (B4.keep J Z);have O5:=ab (O4.keep0 J);have X5:=ab (XC.k0 J);have q:=X5.out;have B:=B5.out.cells;have hr:Hid (a.heap.size<s.heap.size):=B5.out.lt;go_wp2_with fail;refine bkL f (fun hHeld=>?_);clear f K;try simp only [zU]
   refine Ev 3 4 (fun K f=>?_);simp only [ax,q4,q5,q6,q7];go_simp
   refine bkL f (fun hHeld=>?_);clear f K;try simp only [zU]
   refine Ev 2 5 (fun K f=>?_);refine iF sv 50 (sv ⟨#[]⟩) 16 _ rfl (.tmp 16) (.tmp 19) 31 rfl (a.heap.size+1) Tryz.underlying31 Tryz.infoQ rfl (.slice D i E) (aL V i) rfl (O5.keep0 (ag (ae _ _) _)) ⟨s.heap.size,0,none⟩ 1 1 [⟨(cE (V i)).toArray⟩] rfl rfl (fun j u hj=>?_) (fun y=>rfl) (by rw [aI];omega) O (by have:=hr.out;simp;omega) ?_
   ·match j with
    | 0 =>
     simp only [List.map_cons,List.getElem?_cons_zero,zI] at hj;subst hj;simp [Addr.add,World.cell?_alloc_new,sv]
    | j+1=>simp at hj
   intro ao cap S d P;have HN:Hid (some a.heap.size≠(Value.slice D i E).ownBlock):=fun e=>by have:=(O5.fresh _ e.symm).1;omega
   have hl:Hid (some gx≠(Value.slice D i E).ownBlock):=fun e=>by have:=(p.fresh _ e.symm).2;have:=hf.out;omega
   have M:(s.alloc (Obj.cells #[sv ⟨(cE (V i)).toArray⟩] 50)).grownBy S (Value.slice D i E).ownBlock:=P;have B6:=ab ((B5.keep (ag (ae s none) _) Z).keep M HN);have O6:Hid (bM sv 50 S (a.heap.size+1) (.slice ao (i+1) cap) (aL V (i+1))):=by
    rw [gN];rw [aI] at d;exact d
   have X6:=ab ((X5.k0 (ag (ae s none) (Obj.cells #[sv ⟨(cE (V i)).toArray⟩] 50))).k M hl);have G6:Hid (a.grownBy S none):=by
    refine aw (r:=none) (aa A (aa t (aa J (ag (ae s none) _)))) M (fun _ _ e=>e) (fun b hb e=>?_);have:=(O5.fresh b e.symm).1;omega
   clear d P M B q hHeld;obtain ⟨hv,hw,hF,hG⟩:=B6.out.cells;have q:=X6.out;rw [aI];refine bkL f (fun hHeld=>?_) (hS:=⟨by exact hv,q.1,q.2.1,q.2.2⟩);clear f K;try simp only [zU]
   refine tkL 1 [(6,21,.pointer (some ⟨a.heap.size,0,none⟩))] ?_;try simp only [zU]
   refine Ev 0 7 (fun K f=>?_);simp only [ax,q4,q5,q6,q7];go_simp
   refine bkT f ?_;clear f K;try simp only [zU]
   refine endL ?_;clear hHeld q;go_wp2;go_roundw
   case rel=>exact ⟨i+1,_,O,zN,B6.set0 _,O6.keepB (aj (ae _ _)) (Nat.lt_succ_self _),ah G6 _ _ zL⟩
   case measure=>exact bH
  ·obtain rfl:n=i:=O
   obtain ⟨F,G,rfl⟩:=p.out.shape;have UW:=p;rw [aI] at H p;obtain ⟨S1,he⟩:=eX wr.heap.size;have N:Hid (a.heap.size+1<=S1/\∀ k,(Value.slice F n G).ownBlock=some k->k<S1):=⟨by rw [he];exact H.lt,fun k e=>by rw [he];exact (p.fresh k e).2⟩;have Q:Hid (S1<=wr.heap.size):=Nat.le_of_eq he;clear p B he;rw [aI] at UW;go_wp2;go_loopw [26] (fun iv wr=>Hid (TeR1 a (.slice F n G) (aL V n) S1 k I iv wr)) (fun iv _=>k-(intOf iv).toNat)
   case atStart=>exact ⟨0,_,O,rfl,H,fA,A,UW,Q⟩
   case round =>
    obtain ⟨i,v2,hi,rfl,b1,o1,g1,u1,s1⟩:=hrel.out;have UW:=ab u1;have Q:=ab s1;have H:=ab b1;have p:=ab o1;have A:=ab g1;clear b1 o1 g1 u1 s1 hrel n0;have n0:=NC.out wr A;have B:=H.out.cells;by_cases hlt:i<k
    ·obtain ⟨g,rfl,_,fr⟩:=K2.out O;obtain ⟨U,X,Y,h,dl,dc,a0,a1,a2,a3,_⟩:=(fr.keep0 (aa G0 A)).at i hlt;have A3:=ab a3;clear a3 fr;go_upto_region 10 with fail;obtain ⟨gx,l⟩:=eX wr.heap.size;obtain ⟨w4,m⟩:=eX (wr.alloc (Obj.cells #[.bool (rB (I i)),.slice U X Y,.slice h dl dc] 105));have t:Hid (wr.grownBy w4 none):=by rw [m];exact ag (ae _ _) _
     have XC:Hid (bL w4 gx (.bool (rB (I i))) (.slice U X Y) (.slice h dl dc)):=by rw [m,l];exact ⟨zG,zG,zG⟩
     have hf:Hid (wr.heap.size<=gx):=Nat.le_of_eq l.symm;have hB:Hid (a.heap.size<wr.heap.size):=H.out.lt;obtain ⟨D,E,rfl⟩:=p.out.shape;rw [aI] at p H;rw [<- m,<- l];clear m l a0 a1 a2 n0 B;have B4:=ab (H.keep t Z);have O4:=ab (p.keep0 t);have B:=B4.out.cells;have q:=XC.out;refine hdL (fun w'=>w'.cell? ⟨a.heap.size,1,none⟩=some (.slice D i E)/\w'.cell? ⟨gx,0,none⟩=some (.bool (rB (I i)))/\w'.cell? ⟨gx,1,none⟩=some (.slice U X Y)/\w'.cell? ⟨gx,2,none⟩=some (.slice h dl dc)) (fun j=>j==7) (fun hHeld=>?_);refine tkL 5 [(0,30,.pointer (some ⟨a.heap.size,1,none⟩)),(1,31,.slice D i E),(2,32,.agg #[.bool (rB (I i)),.slice U X Y,.slice h dl dc])] ?_;try simp only [zU]
     refine Ev 4 3 (fun K f=>?_);simp only [ax,q4,q5,q6,q7];go_simp
     go_at_call 65
     refine (fQ_at _ (I i) L _ (A3.keep0 (aa t aC)) O (HT.keep0 (aa G0 (aa A (aa t aC))))).mono ?_;rintro e s ⟨rfl,g5⟩;have J:=ab (aa aC g5);clear g5 hHeld B q;have B5:=ab (B4.keep J Z);have O5:=ab (O4.keep0 J);have X5:=ab (XC.k0 J);have q:=X5.out;have B:=B5.out.cells;have hr:Hid (a.heap.size<s.heap.size):=B5.out.lt;go_wp2_with fail;refine bkL f (fun hHeld=>?_);clear f K;try simp only [zU]
     refine Ev 3 4 (fun K f=>?_);simp only [ax,q4,q5,q6,q7];go_simp
     refine bkL f (fun hHeld=>?_);clear f K;try simp only [zU]
     refine Ev 2 5 (fun K f=>?_);refine iF sv 50 (sv ⟨#[]⟩) 16 _ rfl (.tmp 31) (.tmp 34) 31 rfl S1 Tryz.underlying31 Tryz.infoQ rfl (.slice D i E) (aL I i) rfl (O5.keep0 (ag (ae _ _) _)) ⟨s.heap.size,0,none⟩ 1 1 [⟨(cE (I i)).toArray⟩] rfl rfl (fun j u hj=>?_) (fun y=>rfl) (by rw [aI];omega) O (by have:=Q.out;have:=(aa t J).size;simp;omega) ?_
     ·match j with
      | 0 =>
       simp only [List.map_cons,List.getElem?_cons_zero,zI] at hj;subst hj;simp [Addr.add,World.cell?_alloc_new,sv]
      | j+1=>simp at hj
     intro ao cap S d P;have HN:Hid (some a.heap.size≠(Value.slice D i E).ownBlock):=fun e=>by have:=(O5.fresh _ e.symm).1;have:=N.out.1;omega
     have hl:Hid (some gx≠(Value.slice D i E).ownBlock):=fun e=>by have:=(p.fresh _ e.symm).2;have:=hf.out;omega
     have M:(s.alloc (Obj.cells #[sv ⟨(cE (I i)).toArray⟩] 50)).grownBy S (Value.slice D i E).ownBlock:=P;have B6:=ab ((B5.keep (ag (ae s none) _) Z).keep M HN);have O6:Hid (bM sv 50 S S1 (.slice ao (i+1) cap) (aL I (i+1))):=by
      rw [gN];rw [aI] at d;exact d
     have X6:=ab ((X5.k0 (ag (ae s none) (Obj.cells #[sv ⟨(cE (I i)).toArray⟩] 50))).k M hl);have G6:Hid (a.grownBy S none):=by
      refine aw (r:=none) (aa A (aa t (aa J (ag (ae s none) _)))) M (fun _ _ e=>e) (fun b hb e=>?_);have:=(O5.fresh b e.symm).1;have:=N.out.1;omega
     have hC:Hid (S1<=S.heap.size):=Nat.le_trans (Nat.le_trans Q (aa t (aa J (ag (ae s none) _))).size) M.size;have U6:Hid (bM sv 50 S (a.heap.size+1) (.slice F n G) (aL V n)):=by
      refine (UW.keep0 (aa t (aa J (ag (ae s none) _)))).keep M ?_;cases hu:(Value.slice F n G).ownBlock with
      | none=>exact .inl rfl
      | some k =>
       refine .inr fun e=>?_
       have:=N.out.2 k hu;have:=(O5.fresh k e.symm).1;omega
     clear d P M B q hHeld;obtain ⟨hv,hw,hF,hG⟩:=B6.out.cells;have q:=X6.out;rw [aI];refine bkL f (fun hHeld=>?_) (hS:=⟨by exact hw,q.1,q.2.1,q.2.2⟩);clear f K;try simp only [zU]
     refine tkL 1 [(6,36,.pointer (some ⟨a.heap.size,1,none⟩))] ?_;try simp only [zU]
     refine Ev 0 7 (fun K f=>?_);simp only [ax,q4,q5,q6,q7];go_simp
     refine bkT f ?_;clear f K;try simp only [zU]
     refine endL ?_;clear hHeld q;go_wp2;go_roundw
     case rel=>exact ⟨i+1,_,O,zN,B6.set1 _,O6.keepB (aj (ae _ _)) (by have:=N.out.1;omega),ah G6 _ _ zL,U6.keepB (aj (ae _ _)) (Nat.lt_succ_self _),by simpa using hC.out⟩
     case measure=>exact bH
    ·obtain rfl:k=i:=O
     obtain ⟨r0,r1,r2,r3⟩:=(RB.keep A Z).cells;obtain ⟨s0,s1,_⟩:=B;obtain ⟨hx,hy,rfl⟩:=p.out.shape;rw [aI] at p s1;have R2:Hid (∀ v1 v2:Value,aK wr ((wr.setCell ⟨w.heap.size+1,0,none⟩ v1).setCell ⟨w.heap.size+1,1,none⟩ v2) (w.heap.size+1)):=fun v1 v2=>Az (RB.keep A Z) rfl (fun z=>Z) (fun z=>Z) v1 v2
     go_wp2;refine bodyPost_ret (v:=.agg #[.slice F n G,.slice hx k hy]) (by simp [results,Tryz.results37,go_sem,s0,s1,r0,r1]) rfl ?_;have hm:=R2.out (.slice F n G) (.slice hx k hy);refine ⟨_,_,rfl,⟨_,_,rfl⟩,aw (r:=none) (aa G0 A) hm.1 (fun _ _ e=>e) (fun b hb e=>by have:=zJ e;omega),?_⟩;have hz:=hA.out;have hs:=N.out.1;have o:=p.out.keepB hm.1 O;have u:=UW.out.keepB hm.1 O;exact ⟨⟨u.1,u.2.imp id (fun ⟨g,cap,hq,e,hb,r⟩=>⟨g,cap,hq,e,O,r⟩)⟩,o.1,o.2.imp id (fun ⟨g,cap,hq,e,hb,r⟩=>⟨g,cap,hq,e,O,r⟩)⟩
open Go.RowKit Go.Lib
def QFit (q:Rat) (L:Nat):Prop:=rN q<4294967296^L/\q.den<4294967296^L
def FQ.fit {v:Value} {q:Rat} (h:FQ w v q L) (d:0<L):QFit q L:=by
 obtain ⟨up,a,e,b,c,f,g⟩:=h;refine ⟨ly b,?_⟩;rcases c with ⟨_,hd⟩ | ⟨hd,_⟩
 ·rw [hd];exact Nat.one_lt_pow O zD
 ·exact ly hd
end Go.Proofs.YtbomdfhdocaagaaGreatDoor
