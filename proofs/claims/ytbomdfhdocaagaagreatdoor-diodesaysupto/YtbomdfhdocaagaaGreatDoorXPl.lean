/- Contracts. -/
import Derived.Test.YtbomdfhdocaagaaGreatDoorXPk
namespace Go.Proofs.YtbomdfhdocaagaaGreatDoor
open Go.RowKit
set_option linter.all false
set_option maxHeartbeats 8000000
set_option maxRecDepth 10000
variable {a:Act} {w:World} {i:Nat} {l:Array Bool} {K:Act->World->Prop} {D:Nat->Bool} {ops:Array Oper} {Q:Exit->Act->World->Prop}
def bX (on:Bool) (p:aA):aA:=if p.kind=8/\on=true then { p with kind:=4 } else p
def bu (on:Nat->Bool) (ps:List aA):List aA:=ps.mapIdx fun i p=>bX (on i) p
def dt (e:Bool) (p:aA):(bX e p).a=p.a/\(bX e p).b=p.b/\(bX e p).c=p.c/\(bX e p).d=p.d/\(bX e p).v=p.v:=by
 unfold bX;split<;>exact ⟨rfl,rfl,rfl,rfl,rfl⟩
def dq (c:Nat->Bool) (b:List aA):(bu c b).length=b.length:=by simp [bu]
def jx {c:Nat->Bool} {b:List aA} (h:i<b.length) (d:i<(bu c b).length):(bu c b)[i]=bX (c i) b[i]:=by simp [bu]
def du (b:Nat->Bool) (c:List aA) (i:Nat):(bu b c)[i]? = c[i]?.map (bX (b i)):=by simp [bu]
def m7 (b:Nat->Bool) (c:List aA) (i r:Nat):iJ (bu b c) i r=iJ c i r:=by
 unfold iJ;rw [du];cases c[i]? with
 | none=>rfl
 | some p =>
  show ks (bX (b i) p) r=ks p r
  unfold ks;rw [(dt (b i) p).1,(dt (b i) p).2.1]
def qz {n:Nat} {c:List aA} (h:cH n c) (d:Nat->Bool):cH n (bu d c):=by
 refine ⟨h.lo,h.hi,by rw [dq];exact h.len,fun p k=>?_⟩;obtain ⟨i,hi,rfl⟩:=List.getElem_of_mem k;have b:i<c.length:=by rw [dq] at hi;exact hi
 rw [jx b];obtain ⟨e,f,g,j,_⟩:=dt (d i) c[i];rw [e,f,g,j];exact h.ends _ (List.getElem_mem b)
def CJ (p:aA):Prop:=(p.kind=1/\0<p.q)∨p.kind=4∨p.kind=5∨(p.kind=8/\p.q=0)
abbrev sv (s:ByteArray):Value:=.string s
def Tryz.infoQ:(Tryz.prog.info? 50).map (fun i=>(i.zero,i.size,i.bytes))=some (some (sv ⟨#[]⟩),1,16):=zK
def aL (R:Nat->Rat) (i:Nat):List ByteArray:=(List.range i).map fun j=>⟨(cE (R j)).toArray⟩
def aI (R:Nat->Rat) (i:Nat):(aL R i).length=i:=by simp [aL]
def gN (R:Nat->Rat) (i:Nat):aL R (i+1)=aL R i++[⟨(cE (R i)).toArray⟩]:=by simp [aL,List.range_succ]
open Go Go.RowKit
section
variable {P:Program} {ops:Array Oper} {Q:Exit->Act->World->Prop} {md:Region.Mode} {S:World->Prop} {T:Nat->Bool}
def dW (P:Program) (md:Region.Mode) (ops:Array Oper) (Q:Exit->Act->World->Prop) (S:World->Prop) (T:Nat->Bool):Nat->Array Bool->Act->World->Prop
 | 0,l,a,w=>Region.ready md ops l=[]/\Q .normal a w
 | n+1,l,a,w=>(Region.ready md ops l=[]->Q .normal a w)/\∀ i∈Region.ready md ops l,wpOp P ops Q i (fun a' w'=>(T i=false->S w')/\dW P md ops Q S T n (l.setIfInBounds i true) a' w') a w
def vC:∀ (n:Nat) (l:Array Bool) (a:Act) (w:World),dW P md ops Q S T n l a w->wpAny P md ops Q n l a w
 | 0,_,_,_,h=>h
 | n+1,_,_,_,h=>⟨h.1,fun i hi=>wpOp_mono (fun b c k=>vC n _ b c k.2) (h.2 i hi)⟩
def kE (md:Region.Mode) (ops:Array Oper) (T D:Nat->Bool) (i:Nat):Bool :=
 (List.range ops.size).all fun j=>(!T j || D j) && (!D j || ((ops[j]?).map fun o=>o.after.any fun e=>Region.binds md e && (e.on==i || D e.on)).getD true)
def oS (D:Nat->Bool) (l:Array Bool):Bool:=(List.range l.size).all fun k=>!D k || !l.getD k false
def oe {j:Nat} {oj:Oper} (h:kE md ops T D i=true) (d:ops[j]? = some oj):(T j=true->D j=true)/\(D j=true->∃ e∈oj.after,Region.binds md e=true/\(e.on=i∨D e.on=true)):=by
 unfold kE at h;rw [List.all_eq_true] at h;have b:=h j (List.mem_range.2 (zZ d).1);rw [d,Bool.and_eq_true] at b;simp only [Option.map_some,Option.getD_some] at b;refine ⟨fun g=>?_,fun hd=>?_⟩
 ·have:=b.1;rw [g] at this;simpa using this
 ·have c:=b.2;rw [hd] at c;simp only [Bool.not_true,Bool.false_or] at c;obtain ⟨e,f,hb⟩:=Array.any_eq_true'.1 c;simp only [Bool.and_eq_true,Bool.or_eq_true,beq_iff_eq] at hb;exact ⟨e,f,hb.1,hb.2⟩
def yy (h:oS D l=true) (k:Nat) (c:D k=true):l.getD k false=false:=by
 rcases Nat.lt_or_ge k l.size with b | b
 ·unfold oS at h;rw [List.all_eq_true] at h;have:=h k (List.mem_range.2 b);rw [c] at this;simpa using this
 ·simp [Array.getElem?_eq_none b]
def tD {j:Nat} (d:Bool) (h:i≠j):(l.setIfInBounds i true).getD j d=l.getD j d:=getD_set_ne d h
def yb {oi:Oper} {v:Value} (hi:ops[i]? = some oi) (J:Region.noSelect ops=true) (L:kE md ops T D i=true)
  (hQ:∀ c a w,Q (.panic c) (a.put oi.dst v) w->Q (.panic c) a w) :
  ∀ (n:Nat) (l:Array Bool) (a:Act) (w:World),(∀ k,D k=true->l.getD k false=false)->(∀ j oj,ops[j]? = some oj->j≠i->l.getD j true=false->(∀ e∈oj.after,Region.binds md e=true->e.on≠i)->oi.apart ops oj=true) ->
   i∈Region.ready md ops l->YieldsIf P ops S oi v a->S w->dW P md ops Q S T n (l.setIfInBounds i true) (a.put oi.dst v) w->dW P md ops Q S T (n+1) l a w:=by
 intro n;induction n with
 | zero =>
  intro l a w B d t hy hS H;refine ⟨fun I=>(by rw [I] at t;cases t),fun j A=>?_⟩;by_cases e:j=i
  ·rw [e];exact hy.wpOp hi hS ⟨fun _=>hS,H⟩
  ·have:=ready_mono A e;rw [H.1] at this;cases this
 | succ n ih =>
  intro l a w B d t hy hS H;refine ⟨fun I=>(by rw [I] at t;cases t),fun j A=>?_⟩;by_cases e:j=i
  ·rw [e];exact hy.wpOp hi hS ⟨fun _=>hS,H⟩
  ·obtain ⟨z,oj,g,r⟩:=mem_ready.1 A;have p:∀ x∈oj.after,Region.binds md x=true->x.on≠i:=by
    intro x u hb f;have q:=r x u hb;have k0:=(mem_ready.1 t).1;rw [f] at q;rcases Nat.lt_or_ge i l.size with G | G
    ·simp [G] at k0 q;rw [k0] at q;cases q
    ·simp [Array.getElem?_eq_none G] at q
   have s:D j=false:=by
    cases hd:D j with
    | false=>rfl
    | true =>
     obtain ⟨x,u,hb,f⟩:=(oe L g).2 hd;rcases f with f | f
     ·exact absurd f (p x u hb)
     ·have q:=r x u hb;rw [B _ f] at q;cases q
   have M:T j=false:=by
    cases ht:T j with
    | false=>rfl
    | true =>
     have:=(oe L g).1 ht;rw [s] at this;cases this
   have k:=wpOp_putIf g (d j oj g e z p) (fun cs b=>Region.noSelect_spec J i oi cs b hi) (fun cs b=>Region.noSelect_spec J j oj cs b g) hQ hy (H.2 j (ready_mono A e));refine wpOp_mono (fun R U m=>⟨fun _=>m.2.1 M,ih _ R U ?_ ?_ (ready_mono t (Ne.symm e)) m.1 (m.2.1 M) ?_⟩) k
   ·intro x u;have o:j≠x:=fun h=>by rw [h,u] at s;cases s
    rw [tD false o];exact B x u
   ·intro x N C E y F;refine d x N C E ?_ F;by_cases o:j=x
    ·rw [<- o];exact z
    ·rw [getD_set_ne true o] at y;exact y
   ·rw [Array.setIfInBounds_comm _ _ e];exact m.2.2
def Bx (D:Nat->Bool) {oi:Oper} {v:Value} {n:Nat} (hi:ops[i]? = some oi) (b:Region.noSelect ops=true) (d:kE md ops T D i=true) (hn:oS D l=true)
  (hf:Region.free md ops l i=true) (hr:(Region.ready md ops l).contains i=true) (hQ:∀ c a w,Q (.panic c) (a.put oi.dst v) w->Q (.panic c) a w) (hy:YieldsIf P ops S oi v a) (hS:S w)
  (h:dW P md ops Q S T n (l.setIfInBounds i true) (a.put oi.dst v) w):dW P md ops Q S T (n+1) l a w :=
 yb hi b d hQ n l a w (yy hn) (Region.free_spec hi hf) (by simpa using hr) hy hS h
def D9 {o:Oper} {n:Nat} (b:Region.ready md ops l=[i]) (f:ops[i]? = some o)
  (h:∀ K':Act->World->Prop,Shut (∀ a w,(T i=false->S w)->dW P md ops Q S T n (l.setIfInBounds i true) a w->K' a w)->if Region.wanted o (yielded ops a.tmps)=true then Oper.wp P o a w K' Q else K' (a.put o.dst undef) w) :
  dW P md ops Q S T (n+1) l a w:=by
 refine ⟨fun c=>by (rw [b] at c;cases c),fun j d=>?_⟩;rw [b] at d;have e:j=i:=by simpa using d
 rw [e];exact wpOp_step f (fun K' g=>h K' (fun a w k m=>g a w ⟨k,m⟩))
end
open Go Go.RowKit
section
variable {P:Program} {ops:Array Oper} {Q:Exit->Act->World->Prop} {S:World->Prop} {T:Nat->Bool}
def depL (ops:Array Oper) (i:Nat):List Nat:=(List.range ops.size).foldl (fun acc j=>if ((ax ops j).after.any fun e=>Region.binds .any e && (e.on==i || acc.contains e.on)) then j :: acc else acc) []
def depD (ops:Array Oper) (i j:Nat):Bool:=(depL ops i).contains j
def pg (ops:Array Oper) (T:Nat->Bool):List (Nat×Nat)->Array Bool->Bool
 | [],_=>true
 | (i,d) :: ts,l=>(ops[i]?).isSome && (ax ops i).dst==some d && kE .any ops T (depD ops i) i && oS (depD ops i) l && Region.free .any ops l i && (Region.ready .any ops l).contains i && pg ops T ts (l.setIfInBounds i true)
def F0 {n:Nat} (b:Region.noSelect ops=true) (hS:S w) (e:∀ (c:_) (d:Nat) (v:Value) (a:Act) (w:World),Q (.panic c) (a.put (some d) v) w->Q (.panic c) a w) :
  ∀ (ts:List (Nat×Nat×Value)) (l:Array Bool) (a:Act),pg ops T (ts.map fun t=>(t.1,t.2.1)) l=true->qO P ops S ts a->dW P .any ops Q S T n (pL ts l) (pA ts a) w->dW P .any ops Q S T (n+ts.length) l a w
 | [],l,a,_,_,h=>h
 | t :: ts,l,a,hok,hy,h=>by
   simp only [List.map_cons,pg,Bool.and_eq_true,beq_iff_eq] at hok;obtain ⟨⟨⟨⟨⟨⟨g,f⟩,j⟩,k⟩,m⟩,o⟩,p⟩:=hok;refine Bx (depD ops t.1) (i:=t.1) (oi:=ax ops t.1) (v:=t.2.2) (dG g) b j k m o (fun c a w h=>by rw [f] at h;exact e c _ _ a w h) (.inl hy.1) hS ?_;rw [f];exact F0 b hS e ts _ _ p hy.2 h
def tkL {N:Nat} (m:Nat) (b:List (Nat×Nat×Value)) (h:dW P .any ops Q S T m (pL b l) (pA b a) w) (hm:N=m+b.length:=by kernel_rfl) (hs:Region.noSelect ops=true:=by kernel_rfl)
  (hok:pg ops T (b.map fun t=>(t.1,t.2.1)) l=true:=by kernel_rfl)
  (hy:qO P ops S b a:=by
   ((repeat' apply And.intro)<;>first | exact True.intro | kernel_rfl | (intro w e;simp only [ax,List.getElem?_toArray,List.getElem?_cons_zero,List.getElem?_cons_succ,Option.getD_some,pA,vA,Act.put,setA,setZ,setS];go_simp)))
  (hS:S w:=by assumption) (hQ:∀ (c:_) (d:Nat) (v:Value) (a:Act) (w:World),Q (.panic c) (a.put (some d) v) w->Q (.panic c) a w:=by exact fun _ _ _ _ _ h=>h):dW P .any ops Q S T N l a w :=
 hm▸F0 hs hS hQ b l a hok hy h
def Ev {N:Nat} (m i:Nat)
  (h:∀ K':Act->World->Prop,Shut (∀ a w,(T i=false->S w)->dW P .any ops Q S T m (l.setIfInBounds i true) a w->K' a w)->if Region.wanted (ax ops i) (yielded ops a.tmps)=true then Oper.wp P (ax ops i) a w K' Q else K' (a.put (ax ops i).dst undef) w)
  (hr:Region.ready .any ops l=[i]:=by kernel_rfl) (hm:N=m+1:=by kernel_rfl) (ho:(ops[i]?).isSome=true:=by kernel_rfl):dW P .any ops Q S T N l a w :=
 hm▸D9 hr (dG ho) h
def hdL (S:World->Prop) (T:Nat->Bool) {id:Nat} (h:S w.drew->dW P .any ops Q S T ops.size (Array.replicate ops.size false) a w.drew) (hm:P.follows .mixedOrders=true:=by kernel_rfl) (hS:S w.drew:=by (try dsimp only);go_keep):(Code.region id ops true).wp P Q a w :=
 wp_region_any hm (vC _ _ _ _ (h hS))
def bkL {X:Act->World->Prop} (b:Shut (∀ a w,(T i=false->S w)->X a w->K a w)) (h:S w->X a w) (hS:S w:=by (try dsimp only);go_keep):K a w:=b.out a w (fun _=>hS) (h hS)
def bkT {X:Act->World->Prop} (b:Shut (∀ a w,(T i=false->S w)->X a w->K a w)) (h:X a w) (hT:T i=true:=by kernel_rfl):K a w:=b.out a w (fun e=>by rw [hT] at e;cases e) h
def endL (h:Q .normal a w) (hr:Region.ready .any ops l=[]:=by kernel_rfl):dW P .any ops Q S T 0 l a w:=⟨hr,h⟩
end
def ru {P:Program} {α:Type} (f:α->Value) (e:TypeId) (g:Value) (c:Nat) (W:World) {ops:Array Oper} {o:Oper} {a:Act} {K:Act->World->Prop} {Q:Exit->Act->World->Prop} {E:Prop}
  (hg:o.guard=none) (s x:Operand) (t:TypeId) (ho:o.op=.call { callee:=.builtin .append,args:=#[s,x],argTypes:=#[t,t] }) (base:Nat)
  (h1:P.underlying t=some (.slice e)) (hinfo:(P.info? e).map (fun i=>(i.zero,i.size,i.bytes))=some (some g,1,c)) (hcz:g.cells.size=1) (hz1:∀ x:Nat,g.cells[0]!≠.int .u32 (x:Nat)) (hf:∀ u (x:Nat),f u≠.int .u32 (x:Nat))
  (v:Value) (xs:List α) (hs:a.eval s=v) (hown:cV f e W base v xs) (b:Nat) (y:α) (hx:a.eval x=.slice (some ⟨b,0,none⟩) 1 1) (hc:W.cell? ⟨b,0,none⟩=some (f y)) (h1c:(f y).oneCell'=true)
  (hlen:xs.length<=1000000) (hby:c<=24) (hbase:base<=W.heap.size)
  (hK:∀ ao cap w',cV f e w' base (.slice ao (xs.length+1) cap) (xs++[y])->W.grownBy w' v.ownBlock->aO W w'->K (a.put o.dst (.slice ao (xs.length+1) cap)) w') :
  if Region.wanted o (yielded ops a.tmps)=true then Oper.wp P o a W K Q else E:=by
 have q:Region.wanted o (yielded ops a.tmps)=true:=by simp [Region.wanted,hg]
 rw [if_pos q];obtain ⟨i,hi,j,k,m⟩:=info_parts hinfo;have d:(xs.length+1)*c<=140737488355328:=by
  have:(xs.length+1)*c<=(1000000+1)*24:=Nat.mul_le_mul O hby;omega
 obtain ⟨r,w',z,A,B,n,C⟩:=lP (P:=P) W base t o.type e i g c h1 hi j k m hcz hz1 v xs.length (xs.map f) hown.1 hown.2
  (fun u G x=>by obtain ⟨F,_,rfl⟩:=List.mem_map.1 G;exact hf F x) ⟨b,0,none⟩ 1 (f y) hc h1c (hf y) (by unfold maxLen;omega) d hbase
 have h:bM f e w' base r (xs++[y]):=by
  unfold bM;rw [List.length_append,List.map_append];exact A
 obtain ⟨ao,cap,p⟩:=h.shape;rw [List.length_append,List.length_singleton] at p;unfold Oper.wp execOp;simp only [ho,resolve,invoke,builtin,Sem.run_bind,Sem.run_pure,Result.andThen_ok,List.map_toArray,List.map_cons,List.map_nil,hs,hx,z];rw [p] at h n ⊢;exact hK ao cap w' ⟨h,n⟩ B C
def iF {P:Program} {α:Type} (f:α->Value) (e:TypeId) (g:Value) (b:Nat) (W:World) {ops:Array Oper} {o:Oper} {a:Act} {K:Act->World->Prop} {Q:Exit->Act->World->Prop} {E:Prop}
  (hg:o.guard=none) (s x:Operand) (t:TypeId) (ho:o.op=.call { callee:=.builtin .append,args:=#[s,x],argTypes:=#[t,t] }) (base:Nat)
  (h1:P.underlying t=some (.slice e)) (hinfo:(P.info? e).map (fun i=>(i.zero,i.size,i.bytes))=some (some g,1,b)) (hcz:g.cells.size=1) 
  (v:Value) (xs:List α) (hs:a.eval s=v) (hown:bM f e W base v xs) (ad:Addr) (m c:Nat) (ys:List α) (hx:a.eval x=.slice (some ad) m c) (hl:ys.length=m) (hc:∀ j u,(ys.map f)[j]? = some u->W.cell? (ad.add j)=some u) (h1c:∀ y,(f y).oneCell'=true)
  (hlen:xs.length+m<=1000000) (hby:b<=24) (hbase:base<=W.heap.size)
  (hK:∀ ao cap w',bM f e w' base (.slice ao (xs.length+m) cap) (xs++ys)->W.grownBy w' v.ownBlock->K (a.put o.dst (.slice ao (xs.length+m) cap)) w') :
  if Region.wanted o (yielded ops a.tmps)=true then Oper.wp P o a W K Q else E:=by
 have r:Region.wanted o (yielded ops a.tmps)=true:=by simp [Region.wanted,hg]
 rw [if_pos r];obtain ⟨i,hi,k,n,p⟩:=info_parts hinfo;have d:(xs.length+m)*b<=140737488355328:=by
  have:(xs.length+m)*b<=1000000*24:=Nat.mul_le_mul hlen hby;omega
 obtain ⟨z,w',A,B,C,_⟩:=run_append_own (P:=P) W base t o.type e i g 1 b h1 hi k n p hcz zD v xs.length (xs.map f) hown ad m c (ys.map f) (by simp [hl]) hc
  (fun u G=>by obtain ⟨F,_,rfl⟩:=List.mem_map.1 G;exact h1c F) (by unfold maxLen;omega) d hbase
 have h:bM f e w' base z (xs++ys):=by
  unfold bM;rw [List.length_append,List.map_append,hl];exact B
 obtain ⟨ao,cap,q⟩:=h.shape;rw [List.length_append,hl] at q;unfold Oper.wp execOp;simp only [ho,resolve,invoke,builtin,Sem.run_bind,Sem.run_pure,Result.andThen_ok,List.map_toArray,List.map_cons,List.map_nil,hs,hx,A];rw [q] at h ⊢;exact hK ao cap w' h C
def nK {P:Program} {w:World} {ops:Array Oper} {o:Oper} {a:Act} {K:Act->World->Prop} {Q:Exit->Act->World->Prop} {E:Prop} (hg:o.guard=none) (s x:Operand) (t:TypeId)
  (ho:o.op=.call { callee:=.builtin .append,args:=#[s,x],argTypes:=#[t,t] }) (base:Nat) (e:TypeId) (i:TypeInfo) (size:Nat) (ht:P.underlying t=some (.slice e)) (hi:P.info? e=some i)
  (v:Value) (n:Nat) (xs:List Value) (hs:a.eval s=v) (hown:w.ownsRow base e size v n xs) (hx:a.eval x=.slice none 0 0) (h:K (a.put o.dst v) w):if Region.wanted o (yielded ops a.tmps)=true then Oper.wp P o a w K Q else E:=by
 have c:Region.wanted o (yielded ops a.tmps)=true:=by simp [Region.wanted,hg]
 rw [if_pos c];have b:=run_append_owned_none (P:=P) (w:=w) base t o.type e i size ht hi v n xs hown;unfold Oper.wp;simp [execOp,ho,resolve,invoke,builtin,hs,hx,b,Result.andThen];exact h
end Go.Proofs.YtbomdfhdocaagaaGreatDoor
