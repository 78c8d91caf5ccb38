/- Contracts. -/
import Derived.Test.YtkbmbmdemajoaaaGreatDoorXPz
import Derived.Test.YtkbmbmdemajoaaaGreatDoorXPj
import Derived.Test.YtkbmbmdemajoaaaGreatDoorXPo
namespace Go.Proofs.YtkbmbmdemajoaaaGreatDoor
open Go.RowKit
set_option linter.unusedVariables false
set_option linter.unusedSimpArgs false
set_option maxHeartbeats 8000000
set_option maxRecDepth 10000
variable {n b L i c N r base:Nat} {w w':World} {R y K J O:Nat->Rat} {q:Rat} {m1:Nat->Nat->Rat} {ps:List aD} {bs cs P:Nat->Nat} {v:Value}
theorem ay.keepW {off:Nat} {z:Int} {r:Option Nat} (h:ay w b off z L) (g:w.grownBy w' r) (k:aL w w') (f:some b≠r):ay w' b off z L:=by
 obtain ⟨neg,v,d,j,l⟩:=h;have e:w'.heap[b]? = w.heap[b]?:=g.block b d.lt f;exact ⟨neg,v,⟨(World.cell?_of_block (a:=⟨b,off,none⟩) e).trans d.c0,(World.cell?_of_block (a:=⟨b,off+1,none⟩) e).trans d.c1,(World.frozen?_of_block (a:=⟨b,off,none⟩) e).trans d.f0,(World.frozen?_of_block (a:=⟨b,off+1,none⟩) e).trans d.f1⟩,j.kept k,l⟩
theorem RV.keepW {r:Option Nat} (h:RV w b q L) (g:w.grownBy w' r) (k:aL w w') (a:some b≠r):RV w' b q L:=by
 rcases h with h | ⟨e,h⟩
 ·exact .inl ⟨h.1.keepW g k a,h.2.1.keepW g k a,h.2.2⟩
 ·exact .inr ⟨e,h.1.keepW g k a,h.2.keepW g k a⟩
theorem RV.bool (h:RV w b q L):∃ x,w.cell? ⟨b,0,none⟩=some (.bool x):=by
 obtain ⟨z,y,⟨a,v1,d,_⟩,_⟩:=h.ints;exact ⟨a,d.c0⟩
def ym (w:World) (r:Option Nat):Prop:=∀ k,r=some k->∃ v,w.cell? ⟨k,0,none⟩=some v/\∀ x,v≠.bool x
theorem ym.none (w:World):ym w none:=fun k e=>by cases e
theorem RV.apart {r:Option Nat} (h:RV w b q L) (n:ym w r):some b≠r:=by
 intro e;obtain ⟨v,a,d⟩:=n b e.symm;obtain ⟨x,f⟩:=h.bool;rw [f] at a;exact d x (zJ a).symm
def dh (w:World) (b n:Nat) (R:Nat->Rat) (L:Nat):Prop :=
 ∃ cur e,w.heap[b]? = some (.cells cur e (0,0))/\∀ i,i<n->∃ p,cur[i]? = some (.pointer (some ⟨p,0,none⟩))/\RV w p (R i) L
theorem dh.lt (h:dh w b n R L):b<w.heap.size:=by
 obtain ⟨a,e,hb,_⟩:=h;exact (zZ hb).1
theorem dh.keep {r:Option Nat} (h:dh w b n R L) (g:w.grownBy w' r) (k:aL w w') (d:some b≠r) (hn:ym w r):dh w' b n R L:=by
 have f:=h.lt;obtain ⟨a,e,hb,hc⟩:=h;refine ⟨a,e,by rw [g.block b f d];exact hb,fun i hi=>?_⟩;obtain ⟨p,c0,c1⟩:=hc i hi;exact ⟨p,c0,c1.keepW g k (c1.apart hn)⟩
theorem dh.keep0 (h:dh w b n R L) (g:w.grownBy w' none):dh w' b n R L:=h.keep g (aL.of_gr g) Z (ym.none w)
theorem dh.congr {R':Nat->Rat} (h:dh w b n R L) (e:∀ i,i<n->R i=R' i):dh w b n R' L:=by
 obtain ⟨a,d,hb,hc⟩:=h;refine ⟨a,d,hb,fun i hi=>?_⟩;rw [<- e i hi];exact hc i hi
theorem dh.at (h:dh w b n R L) (i:Nat) (hi:i<n) :
  ∃ p,w.cell? ⟨b,i,none⟩=some (.pointer (some ⟨p,0,none⟩))/\RV w p (R i) L/\∀ k,w.frozen? ⟨b,k,none⟩=false:=by
 obtain ⟨a,e,hb,hc⟩:=h;obtain ⟨p,c0,c1⟩:=hc i hi;exact ⟨p,by simp only [World.cell?,hb];exact c0,c1,fun k=>by simp [World.frozen?,hb]⟩
theorem dh.noB (h:dh w b n R L) (hn:0<n):ym w (some b):=by
 intro k e;obtain rfl:=zJ e;obtain ⟨p,c0,_⟩:=h.at 0 hn;exact ⟨_,c0,fun x=>Z⟩
theorem dh.set (h:dh w b n R L) (i:Nat) (hi:i<n) {p:Nat} (k:RV w p q L) :
  dh (w.setCell ⟨b,i,none⟩ (.pointer (some ⟨p,0,none⟩))) b n (aJ R i q) L/\aI w (w.setCell ⟨b,i,none⟩ (.pointer (some ⟨p,0,none⟩))) b:=by
 have a:=h.noB O;obtain ⟨g,e,hb,hc⟩:=h;obtain ⟨t,c0,c1⟩:=hc i hi;have d:aI w (w.setCell ⟨b,i,none⟩ (.pointer (some ⟨p,0,none⟩))) b:=aI.set hb (fun x ex=>by rw [c0] at ex;cases ex) _;refine ⟨⟨_,e,heap_setCell_same w b i g e _ hb,fun j s=>?_⟩,d⟩;by_cases f:j=i
 ·subst f;refine ⟨p,Array.getElem?_setIfInBounds_self_of_lt (zZ c0).1,?_⟩;unfold aJ;rw [if_pos rfl];exact k.keepW d.1 d.2 (k.apart a)
 ·obtain ⟨m,o,l⟩:=hc j s;refine ⟨m,by rw [Array.getElem?_setIfInBounds_ne (fun e=>f e.symm)];exact o,?_⟩;unfold aJ;rw [if_neg f];exact l.keepW d.1 d.2 (l.apart a)
structure dg (w:World) (br m n:Nat) (bs cs:Nat->Nat) (R:Nat->Nat->Rat) (L:Nat):Prop where
 top:∃ cur e,w.heap[br]? = some (.cells cur e (0,0))/\∀ i,i<m->cur[i]? = some (.slice (some ⟨bs i,0,none⟩) n (cs i))
 cap:∀ i,i<m->n<=cs i/\cs i<=maxLen
 row:∀ i,i<m->dh w (bs i) n (R i) L
 inj:∀ i j,i<m->j<m->bs i=bs j->i=j
 off:∀ i,i<m->bs i≠br
section
variable {w w':World} {br m n L:Nat} {bs cs:Nat->Nat} {R R':Nat->Nat->Rat}
theorem dg.lt (h:dg w br m n bs cs R L):br<w.heap.size:=by
 obtain ⟨a,e,hb,_⟩:=h.top;exact (zZ hb).1
theorem dg.cell (h:dg w br m n bs cs R L) (i:Nat) (hi:i<m):w.cell? ⟨br,i,none⟩=some (.slice (some ⟨bs i,0,none⟩) n (cs i))/\∀ k,w.frozen? ⟨br,k,none⟩=false:=by
 obtain ⟨a,e,hb,hc⟩:=h.top;exact ⟨by simp only [World.cell?,hb];exact hc i hi,fun k=>by simp [World.frozen?,hb]⟩
theorem dg.noB (h:dg w br m n bs cs R L) (a:0<m):ym w (some br):=by
 intro k e;obtain rfl:=zJ e;exact ⟨_,(h.cell 0 a).1,fun x=>Z⟩
theorem dg.keep0 (h:dg w br m n bs cs R L) (g:w.grownBy w' none):dg w' br m n bs cs R L:=by
 have d:=h.lt;obtain ⟨a,e,hb,hc⟩:=h.top;exact ⟨⟨a,e,by rw [g.block br d Z];exact hb,hc⟩,h.cap,fun i hi=>(h.row i hi).keep0 g,h.inj,h.off⟩
theorem dg.congr (h:dg w br m n bs cs R L) (e:∀ i,i<m->∀ j,j<n->R i j=R' i j):dg w br m n bs cs R' L:=⟨h.top,h.cap,fun i hi=>(h.row i hi).congr (e i hi),h.inj,h.off⟩
theorem dg.step (h:dg w br m n bs cs R L) (hn:0<n) (hi:i<m) {Q:Nat->Rat} (l:dh w' (bs i) n Q L) (g:aI w w' (bs i)):dg w' br m n bs cs (fun j=>if j=i then Q else R j) L:=by
 have o:=h.lt;have d:=(h.row i hi).noB hn;obtain ⟨f,e,hb,hc⟩:=h.top;refine ⟨⟨f,e,by rw [g.1.block br o (fun e=>h.off i hi (zJ e).symm)];exact hb,hc⟩,h.cap,fun j k=>?_,h.inj,h.off⟩;by_cases a:j=i
 ·subst a;simp only [if_true];exact l
 ·simp only [if_neg a];exact (h.row j k).keep g.1 g.2 (fun e=>a (h.inj j i k hi (zJ e))) d
theorem dg.swap (h:dg w br m n bs cs R L) {a:Nat} (ha:a<m) (hb:b<m) :
  dg ((w.setCell ⟨br,a,none⟩ (.slice (some ⟨bs b,0,none⟩) n (cs b))).setCell ⟨br,b,none⟩ (.slice (some ⟨bs a,0,none⟩) n (cs a))) br m n (fun i=>bs (aM a b i)) (fun i=>cs (aM a b i)) (fun i=>R (aM a b i)) L
  /\ aI w ((w.setCell ⟨br,a,none⟩ (.slice (some ⟨bs b,0,none⟩) n (cs b))).setCell ⟨br,b,none⟩ (.slice (some ⟨bs a,0,none⟩) n (cs a))) br:=by
 have g:=h.noB O;obtain ⟨p,e,hh,hc⟩:=h.top;obtain ⟨d,o,s,f⟩:=tn hh (hc a ha) (hc b hb) (fun z=>Z) (fun z=>Z);generalize (w.setCell ⟨br,a,none⟩ (.slice (some ⟨bs b,0,none⟩) n (cs b))).setCell ⟨br,b,none⟩ (.slice (some ⟨bs a,0,none⟩) n (cs a))=w' at o f ⊢;have lt:∀ i,i<m->aM a b i<m:=fun i hi=>dp ha hb hi
 refine ⟨⟨⟨d,e,o,fun i hi=>?_⟩,fun i hi=>h.cap _ (lt i hi),fun i hi=>(h.row _ (lt i hi)).keep f.1 f.2 (fun k=>h.off _ (lt i hi) (zJ k)) g,fun i j hi t k=>?_,fun i hi=>h.off _ (lt i hi)⟩,f⟩
 ·rw [s i];exact hc _ (lt i hi)
 ·have:=h.inj _ _ (lt i hi) (lt j t) k;have l:aM a b (aM a b i)=aM a b (aM a b j):=by rw [this]
  rw [eK,eK] at l;exact l
theorem RV.tightW {L':Nat} (h:RV w b q L) (a:bg L' q):RV w b q L':=by
 rcases h with h | ⟨e,h⟩
 ·have p:q.num.natAbs<4294967296^L':=a.1;obtain ⟨⟨d,v1,f,g,j⟩,⟨k,v2,l,m,o⟩,s⟩:=h;exact .inl ⟨⟨d,v1,f,g.tight p,j⟩,⟨k,v2,l,m.tight a.2,o⟩,s⟩
 ·subst e;obtain ⟨⟨d,v1,f,g,j⟩,⟨k,v2,l,m,o⟩⟩:=h;exact .inr ⟨rfl,⟨d,v1,f,g.tight a.1,j⟩,⟨k,v2,l,m.tight a.1,o⟩⟩
end
structure gA (w:World) (base n i:Nat) (bs cs:Nat->Nat) (R:Nat->Nat->Rat) (L:Nat):Prop where
 low:∀ j,j<i->base<=bs j
 cap:∀ j,j<i->n<=cs j/\cs j<=maxLen
 row:∀ j,j<i->dh w (bs j) n (R j) L
 inj:∀ j k,j<i->k<i->bs j=bs k->j=k
section
variable {w w':World} {base n i L:Nat} {bs cs:Nat->Nat} {R:Nat->Nat->Rat}
theorem gA.nil (w:World) (base n:Nat) (bs cs:Nat->Nat) (R:Nat->Nat->Rat) (L:Nat):gA w base n 0 bs cs R L:=⟨fun j h=>O,fun j h=>O,fun j h=>O,fun j k h=>O⟩
theorem gA.keep0 (h:gA w base n i bs cs R L) (g:w.grownBy w' none):gA w' base n i bs cs R L:=⟨h.low,h.cap,fun j a=>(h.row j a).keep0 g,h.inj⟩
theorem gA.keepB {r:Option Nat} (h:gA w base n i bs cs R L) (g:w.grownBy w' r) (k:aL w w') (hb:∀ j,j<i->some (bs j)≠r) (hn:ym w r):gA w' base n i bs cs R L:=⟨h.low,h.cap,fun j a=>(h.row j a).keep g k (hb j a) hn,h.inj⟩
theorem gA.put {g:Nat} (h:gA w base n i bs cs R L) (m:base<=g) (o:n<=c) (p:c<=maxLen) (s:dh w g n (R i) L) (f:∀ j,j<i->bs j≠g):gA w base n (i+1) (cQ bs i g) (cQ cs i c) R L:=by
 refine ⟨fun j d=>?_,fun j d=>?_,fun j d=>?_,fun j k d t e=>?_⟩
 ·unfold cQ;split
  ·exact m
  ·exact h.low j O
 ·unfold cQ;split
  ·exact ⟨o,p⟩
  ·exact h.cap j O
 ·unfold cQ;split
  ·rename_i e;rw [e];exact s
  ·exact h.row j O
 ·unfold cQ at e;by_cases l:j=i
  ·rw [if_pos l] at e;by_cases a:k=i
   ·omega
   ·rw [if_neg a] at e;exact absurd e.symm (f k O)
  ·rw [if_neg l] at e;by_cases a:k=i
   ·rw [if_pos a] at e;exact absurd e (f j O)
   ·rw [if_neg a] at e;exact h.inj j k O O e
end
theorem dh.mono {L':Nat} (h:dh w b n R L) (d:L<=L'):dh w b n R L':=by
 obtain ⟨a,e,hb,hc⟩:=h;refine ⟨a,e,hb,fun i hi=>?_⟩;obtain ⟨p,c0,c1⟩:=hc i hi;exact ⟨p,c0,c1.mono d⟩
theorem dh.ne_slice {bo:Nat} {x:Option Addr} {l:Nat} (h:dh w b n R L) (hn:0<n) (hc:w.cell? ⟨bo,0,none⟩=some (.slice x l c)):b≠bo:=by
 intro e;obtain ⟨p,c0,_⟩:=h.at 0 hn;rw [e,hc] at c0;cases c0
theorem cS.first {t:TypeId} (h:cS (dW n) t w base v (bV bs cs i)) (hi:0<i) {k:Nat} (e:v.ownBlock=some k):∃ a l c,w.cell? ⟨k,0,none⟩=some (.slice a l c):=by
 obtain ⟨p,cap,rfl,_,_,m⟩:=h.1.row;obtain ⟨s,off,f,_,c⟩:=m 0 (by rw [bj];exact hi);rw [f] at e;simp only [Value.ownBlock,zI] at e;rcases h.1.2 with ⟨d,_⟩ | ⟨g,j,o,d,_⟩
 ·rw [f] at d;simp at d
 ·rw [f] at d;simp only [Value.slice.injEq,zI,Addr.mk.injEq] at d;rw [d.1.2.1,Nat.zero_add,e] at c;exact ⟨_,_,_,c⟩
theorem cS.noB {t:TypeId} (h:cS (dW n) t w base v (bV bs cs i)) (hi:0<i):ym w v.ownBlock:=by
 intro k e;obtain ⟨a,l,c,hc⟩:=h.first hi e;exact ⟨_,hc,fun x=>Z⟩
theorem cS.ne_prow {k:Nat} {t:TypeId} {Q:Nat->Rat} (h:cS (dW n) t w base v (bV bs cs i)) (hi:0<i) (d:dh w b k Q L) (f:0<k):some b≠v.ownBlock:=by
 intro e;obtain ⟨a,l,c,hc⟩:=h.first hi e.symm;exact d.ne_slice f hc rfl
theorem cS.pmat {m:Nat} {t:TypeId} {R:Nat->Nat->Rat} (h:cS (dW n) t w base v (bV bs cs m)) (p:0<m) (hn:0<n) (d:gA w base n m bs cs R L) :
  ∃ br cap,v=.slice (some ⟨br,0,none⟩) m cap/\base<=br/\m<=cap/\cap<=maxLen/\dg w br m n bs cs R L:=by
 have f:=fun j (hj:j<m)=>h.ne_prow p (d.row j hj) hn
 rcases h.1.2 with ⟨_,s⟩ | ⟨g,cap,a,e,hb,hh,l,u,z,o⟩
 ·rw [bj] at s;omega
 ·rw [bj] at e l o;refine ⟨g,cap,e,hb,l,u,⟨⟨a,t,hh,fun i hi=>?_⟩,d.cap,d.row,d.inj,fun i hi x=>f i hi (by rw [e,x];rfl)⟩⟩;have k:(a.toList.take (m*1))[i]? = ((bV bs cs m).map (dW n))[i]?:=by rw [o]
  rw [List.getElem?_take,if_pos O,Array.getElem?_toList] at k;rw [k];simp [bV,dW,hi]
def cE (R:Nat->Rat) (node:Int) (x:Rat):Nat->Rat:=fun j=>if 0<node/\(j:Int)=node-1 then R j+x else R j
theorem iw (g n cap:Nat) (R:Nat->Rat) (L M:Nat) (node:Int) (a:Nat) (x:Rat) (w:World) (m:dh w g n R L) (o:RX w a x M) (C:0<=node) (D:node<=n) (s:n<=cap) (d:cap<=maxLen) (E:2<=L) (F:L+M<=3900000000000) :
  Calls Tryz.prog 42 #[.slice (some ⟨g,0,none⟩) n cap,.int .i64 node,.pointer (some ⟨a,0,none⟩)] w fun e w'=>e=.returned (.tuple #[])/\dh w' g n (cE R node x) (L+M+3)/\aI w w' g:=by
 have f:=ab m;have G:=ab o;unfold maxLen at d;clear m o;go_enter Tryz.func42,Tryz.ntmps42
 by_cases h0:0<node
 ·obtain ⟨j,Y⟩:∃ j:Nat,node=(j:Int)+1:=⟨(node-1).toNat,O⟩;subst Y;obtain ⟨p,c0,c1,t⟩:=f.out.at j O;have H:=ab c1;have c2:=t j;have I:(0:Int)<=(j:Int):=O
  have Q:(j:Int)<(n:Int):=O
  have hw:IntKind.i64.wrap ((j:Int)+1-1)=(j:Int):=by
   rw [show (j:Int)+1-1=j by omega];exact IntWalk.i64_in _ ⟨O,O⟩
  have S:IntKind.i64.wrap (j:Int)=(j:Int):=IntWalk.i64_in _ ⟨O,O⟩;clear c1 t;go_wp2_with fail;refine (rAdd_at p a _ _ L M w (H.x E) G F).mono ?_;rintro e w1 ⟨q,rfl,u,l,y3⟩;have h:=f.out.keep0 l;obtain ⟨_,d0,_,z⟩:=h.at j O;have T:=z j;obtain ⟨A,B⟩:=(h.mono (show L<=L+M+3 by omega)).set j O (.inl u);have U:=ab A;have V:=ab ((aI.of_gr l).trans B);clear A B h z u l y3;go_wp2;go_end0
  refine ⟨rfl,U.congr (fun k hk=>?_),V⟩;unfold aJ cE;by_cases e:k=j
  ·rw [if_pos e,if_pos ⟨O,O⟩,e]
  ·rw [if_neg e,if_neg O]
 ·have W:node=0:=O
  subst W;have X:Hid (cE R 0 x=R):=by
   show _=_
   funext j
   unfold cE;rw [if_neg O]
  go_wp2;go_end0
  exact ⟨rfl,by rw [X];exact (f.mono O),aI.refl _ _⟩
theorem ze (v:ByteArray) (K:Nat) (m:Int) (w:World) (d:v.size<=1000000000) (f:3*v.size+8<=K) (a:w.cell? ⟨1,0,none⟩=some (.int .i64 m)) :
  Calls Tryz.prog 45 #[.string v] w fun e w'=>∃ b,e=.returned (.pointer (some ⟨b,0,none⟩))/\w.grownBy w' none/\w.heap.size<=b/\RV w' b (fy v.data.toList) K:=by
 refine (rOfN_at v m w d a).mono ?_;rintro e w' ⟨b,rfl,g,j,h⟩;exact ⟨b,rfl,g,j,RV.mono (L:=3*v.size+8) h f⟩
def iu (p:aD) (node:Nat):Int:=(if p.a=(node:Int) then 1 else 0)-(if p.b=(node:Int) then 1 else 0)
def du (N:Nat) (ps:List aD) (node i:Nat):Nat->Rat:=fun u=>if N<=u/\u<N+i then (match ps[u-N]? with | some p=>((iu p node:Int):Rat) | none=>0) else 0
theorem nB (N:Nat) (ps:List aD) (node:Nat):du N ps node 0=fun _=>0:=by
 funext u
 unfold du;rw [if_neg O]
theorem gV (N:Nat) (ps:List aD) (node i:Nat) (hi:i<ps.length):aJ (du N ps node i) (N+i) ((iu ps[i] node:Int):Rat)=du N ps node (i+1):=by
 funext u
 unfold aJ du;by_cases e:u=N+i
 ·rw [if_pos e,if_pos O,e,Nat.add_sub_cancel_left,zX hi]
 ·rw [if_neg e];by_cases h:N<=u/\u<N+i
  ·rw [if_pos h,if_pos O]
  ·rw [if_neg h,if_neg O]
def lD (N:Nat) (ps:List aD) (K J O:Nat->Rat) (i:Nat):Nat->Rat :=
 match ps[i]? with
 | none=>fun _=>0
 | some p=>if p.kind=6 then cE (cE (cE (cE (fun _=>0) p.a 1) p.b (-1)) p.c (-(fy p.v.data.toList))) p.d (fy p.v.data.toList)
   else if p.kind=7 then cE (cE (aJ (fun _=>0) (N+i) 1) p.c (-(fy p.v.data.toList))) p.d (fy p.v.data.toList)
   else aJ (aJ (cE (cE (fun _=>0) p.a (K i)) p.b (-(K i))) (N+i) (J i)) (N+ps.length) (O i)
def aW (N:Nat) (ps:List aD) (K J O:Nat->Rat) (j:Nat):Nat->Rat:=if j<N then du N ps (j+1) ps.length else lD N ps K J O (j-N)
theorem zi (hi:i<ps.length) (h:ps[i].kind=6):aW N ps K J O (N+i)=cE (cE (cE (cE (fun _=>0) ps[i].a 1) ps[i].b (-1)) ps[i].c (-(fy ps[i].v.data.toList))) ps[i].d (fy ps[i].v.data.toList):=by
 unfold aW lD;rw [if_neg (by omega),Nat.add_sub_cancel_left,zX hi];exact if_pos h
theorem zj (hi:i<ps.length) (h:ps[i].kind=7):aW N ps K J O (N+i)=cE (cE (aJ (fun _=>0) (N+i) 1) ps[i].c (-(fy ps[i].v.data.toList))) ps[i].d (fy ps[i].v.data.toList):=by
 unfold aW lD;rw [if_neg (by omega),Nat.add_sub_cancel_left,zX hi];exact (if_neg (by omega)).trans (if_pos h)
theorem oq (hi:i<ps.length) (d:¬ ps[i].kind=6) (e:¬ ps[i].kind=7):aW N ps K J O (N+i)=aJ (aJ (cE (cE (fun _=>0) ps[i].a (K i)) ps[i].b (-(K i))) (N+i) (J i)) (N+ps.length) (O i):=by
 unfold aW lD;rw [if_neg (by omega),Nat.add_sub_cancel_left,zX hi];exact (if_neg d).trans (if_neg e)
namespace Rk
open Nums
section
variable {n:Nat} {W:Nat->Nat->Rat} {s:Nat->Rat} {m:Nat->Nat->Rat} {r c:Nat} {P:Nat->Nat} {perm:List Nat} {b:Nat->Nat}
theorem j7 (h:Gj n W s m r c P perm) (hn:0<n) (hb:∀ r,1<=b r) (a:∀ r j,gF (b r) (W r j)) (γ:List Nat) (t:Nat) (e:t<=n):gF (dM n b) (cP W γ (perm.take t).reverse):=by
 have d:=h.pl;have hc:∀ r,1<=n*b r:=fun r=>Nat.mul_pos hn (hb r)
 have:=o9 bI W b hb a n hn γ (perm.take t).reverse (by rw [List.length_reverse,List.length_take];omega);refine bI.mono _ _ _ ?_ this;rw [kD];unfold dM;rw [<- h.pp _ hc];exact pI _ hc perm t
theorem Ak (h:Gj n W s m r c P perm) (hn:0<n) (hb:∀ r,1<=b r) (a:∀ r j,gF (b r) (W r j)) (γ:List Nat) (i:Nat) (hi:r<=i) (d:i<n):gF (dM n b) (cP W γ (perm.getD i 0 :: (perm.take r).reverse)):=by
 have e:=h.pl;have hc:∀ r,1<=n*b r:=fun r=>Nat.mul_pos hn (hb r)
 have:=o9 bI W b hb a n hn γ (perm.getD i 0 :: (perm.take r).reverse) (by simp only [List.length_cons,List.length_reverse,List.length_take];omega);refine bI.mono _ _ _ ?_ this;unfold dM;rw [<- h.pp _ hc];exact rG _ hc perm r i hi O
theorem xY (h:Gj n W s m r c P perm) (hn:0<n) (hb:∀ r,1<=b r) (a:∀ q,gF (b q) (s q)) (i:Nat) (d:i<n):gF (dM n b) (s (perm.getD i 0)):=by
 have e:=h.pl;have hc:∀ r,1<=n*b r:=fun r=>Nat.mul_pos hn (hb r)
 refine bI.mono _ _ _ ?_ (a _);unfold dM;rw [<- h.pp _ hc];refine Nat.le_trans (Nat.le_mul_of_pos_left _ hn) (rF (fun r=>n*b r) hc perm (dm perm i O))
theorem xR {a d:Rat} (hd:d≠0) (h:q*d=a):q=a / d:=(Cn hd h).symm
theorem gj_fit (h:Gj n W s m r c P perm) (S:∀ q,s q≠0) (hb:∀ r,1<=b r) (o:∀ r j,gF (b r) (W r j)) (hw:∀ q,gF (b q) (s q)) {E:Nat} (p:dM n b<4294967296^E) (i k:Nat) (hi:i<n) (hk:k<=n):bg (3*E) (m i k):=by
 have hn:0<n:=O
 obtain ⟨M,l⟩:=eX (dM n b);have d:1<=M:=by
  rw [l];exact kC _ (fun r=>Nat.mul_pos hn (hb r)) _
 have f:M*M*M<4294967296^(3*E):=by
  rw [show 3*E=E+E+E by omega,Nat.pow_add,Nat.pow_add];rw [<- l] at p;exact Nat.mul_lt_mul'' (Nat.mul_lt_mul'' p p) p
 have F:M<=M*M*M:=Nat.le_trans (Nat.le_mul_of_pos_right M d) (Nat.le_mul_of_pos_right _ d);have G:M*M<=M*M*M:=Nat.le_mul_of_pos_right _ d;have T:∀ {x},gF M x->gF (M*M*M) x:=fun D=>bI.mono _ _ _ F D
 have H:∀ {x y},gF M x->gF M y->gF (M*M*M) (x*y):=fun D hy=>bI.mono _ _ _ G (bI.mul _ _ _ _ D hy)
 have W3:∀ {x y z},gF M x->gF M y->gF M z->gF (M*M*M) (x*y*z):=fun D hy hz=>bI.mul _ _ _ _ (bI.mul _ _ _ _ D hy) hz
 have a:=xY h hn hb hw i hi;rw [<- l] at a;by_cases U:r<=i
 ·have e:=vz h i U hi k;have g:=gT (h.dnz r zL) (S (perm.getD i 0));have t:=j7 h hn hb o (gk P r) r h.red.rn;have u:=Ak h hn hb o (k :: gk P r) i U hi;rw [<- l] at t u;have A:m i k=cP W (k :: gk P r) (perm.getD i 0 :: (perm.take r).reverse) / (cP W (gk P r) (perm.take r).reverse*s (perm.getD i 0)):=xR g (by rw [Rat.mul_comm];exact e);rw [A];exact lU f (T u) (H t a) g
 ·have B:i<r:=O
  have C:=h.red.rn;have e:=h.led i B;have g:=gT (h.dnz i O) (S (perm.getD i 0));have t:=j7 h hn hb o (gk P i) i O;have u:=j7 h hn hb o (gk P (i+1)) (i+1) O;rw [<- l] at t u;by_cases hP:∀ j,j<r->P j≠k
  ·obtain ⟨γ,f1,f2⟩:=Co h i B k hk hP;have V:=j7 h hn hb o (P i :: γ) r C;have X:=j7 h hn hb o (k :: γ) r C;rw [<- l] at V X;have e2:m i k*(cP W (gk P i) (perm.take i).reverse*s (perm.getD i 0)*cP W (P i :: γ) (perm.take r).reverse)=cP W (gk P (i+1)) (perm.take (i+1)).reverse*cP W (k :: γ) (perm.take r).reverse:=by
    rw [<- e]
    calc _=(cP W (gk P i) (perm.take i).reverse*s (perm.getD i 0))*(m i k*cP W (P i :: γ) (perm.take r).reverse):=by grind
     _=_:=by rw [f1];grind
   have A:=xR (gT g f2) e2;rw [A];exact lU f (H u X) (W3 t a V) (gT g f2)
  ·have:∃ j,j<r/\P j=k:=by
    apply Classical.byContradiction;intro I;exact hP fun j hj e=>I ⟨j,hj,e⟩
   obtain ⟨j,hj,rfl⟩:=this;by_cases Y:i=j
   ·subst Y;have A:=xR g e;rw [A];exact lU f (T u) (H t a) g
   ·rw [h.red.other j hj i hi Y];exact ⟨Nat.pow_pos zD,Nat.lt_of_lt_of_le zD (Nat.le_trans (show 2<=4294967296^1 by decide) (Nat.pow_le_pow_right zD (by
     have:0<E:=by
      rcases zP E with Q | Q
      ·rw [Q,<- l] at p;have:M<1:=p;omega
      ·exact Q
     omega)))⟩
end
end Rk
namespace Rk
open Nums
def lc (n:Nat) (P:Nat->Nat):Nat->Nat
 | 0=>0
 | r+1=>lc n P r+if P r<n then 1 else 0
theorem uF {Q:Nat->Nat} : ∀ r,(∀ j,j<r->P j=Q j)->lc n P r=lc n Q r
 | 0,_=>rfl
 | r+1,h=>by rw [lc,lc,h r O,uF r fun j a=>h j O]
theorem lc_le (n:Nat) (P:Nat->Nat):∀ r,lc n P r<=r
 | 0=>zL
 | r+1=>by
  have:=lc_le n P r;rw [lc];split<;>omega
theorem xx : ∀ r,(∀ j,j<r->P j<n)->lc n P r=r
 | 0,_=>rfl
 | r+1,h=>by rw [lc,if_pos (h r O),xx r fun j hj=>h j O]
theorem yK {j:Nat} (hP:¬ P j<n):∀ r,j<r->lc n P r<r
 | 0,h=>absurd h (Nat.not_lt_zero _)
 | r+1,h=>by
  rw [lc];by_cases e:j=r
  ·rw [<- e,if_neg hP];have:=lc_le n P j;omega
  ·have:=yK hP r O;split<;>omega
def fc (m1:Nat->Nat->Rat) (r c i:Nat):Rat:=m1 i c / m1 r c
def wF (m1:Nat->Nat->Rat) (r c i:Nat):Nat->Nat->Rat:=fun x=>if x<i then dD m1 r (fc m1 r c) x else m1 x
def AV (m1:Nat->Nat->Rat) (r c i k:Nat):Nat->Nat->Rat:=fun x=>if x=i then (fun y=>if y<k then dD m1 r (fc m1 r c) i y else m1 i y) else wF m1 r c i x
theorem uH (m1:Nat->Nat->Rat) (r:Nat) (f:Nat->Rat):dD m1 r f r=m1 r:=by
 funext k
 unfold dD;rw [if_pos rfl]
theorem mxr_zero (m1:Nat->Nat->Rat) (r c:Nat):wF m1 r c 0=m1:=by
 funext x
 unfold wF;rw [if_neg O]
theorem mxr_same (h:i=r∨m1 i c=0):wF m1 r c (i+1)=wF m1 r c i:=by
 funext x
 unfold wF;by_cases e:x=i
 ·subst e;rw [if_pos O,if_neg O];rcases h with h | h
  ·rw [h];exact uH _ _ _
  ·funext k
   unfold dD;split
   ·rfl
   ·unfold fc;rw [h,Rat.div_def];grind
 ·by_cases a:x<i
  ·rw [if_pos O,if_pos a]
  ·rw [if_neg O,if_neg a]
theorem mxr_r (m1:Nat->Nat->Rat) (r c i:Nat):wF m1 r c i r=m1 r:=by
 unfold wF;split
 ·exact uH _ _ _
 ·rfl
theorem mxr_i (m1:Nat->Nat->Rat) (r c i:Nat):wF m1 r c i i=m1 i:=by
 unfold wF;rw [if_neg O]
theorem mxr_end {x:Nat} (a:x<n):wF m1 r c n x=dD m1 r (fc m1 r c) x:=by
 unfold wF;rw [if_pos a]
theorem mxk_start (a:∀ k,k<c->m1 r k=0) (x y:Nat):wF m1 r c i x y=AV m1 r c i c x y:=by
 unfold AV;split
 ·rename_i e;subst e;rw [mxr_i];dsimp only
  by_cases hy:y<c
  ·rw [if_pos hy];unfold dD;split
   ·rfl
   ·rw [a y hy];grind
  ·rw [if_neg hy]
 ·rfl
theorem mxk_end (x y:Nat) (hy:y<n+1):AV m1 r c i (n+1) x y=wF m1 r c (i+1) x y:=by
 unfold AV;split
 ·rename_i e;subst e;dsimp only
  rw [if_pos hy];unfold wF;rw [if_pos O]
 ·rename_i e;unfold wF;by_cases a:x<i
  ·rw [if_pos a,if_pos O]
  ·rw [if_neg a,if_neg O]
theorem mxk_put (m1:Nat->Nat->Rat) (r c i k:Nat):AV m1 r c i (k+1)=fun x=>if x=i then aJ (AV m1 r c i k i) k (dD m1 r (fc m1 r c) i k) else AV m1 r c i k x:=by
 funext x
 by_cases e:x=i
 ·subst e;rw [if_pos rfl];funext y
  unfold aJ AV;rw [if_pos rfl,if_pos rfl];try dsimp only
  by_cases a:y=k
  ·rw [if_pos a,if_pos O,a]
  ·rw [if_neg a];by_cases hy:y<k
   ·rw [if_pos hy,if_pos O]
   ·rw [if_neg hy,if_neg O]
 ·rw [if_neg e];unfold AV;rw [if_neg e,if_neg e]
theorem mxk_i (m1:Nat->Nat->Rat) (r c i k:Nat):AV m1 r c i k i k=m1 i k:=by
 unfold AV;rw [if_pos rfl,if_neg O]
theorem mxk_r {k:Nat} (h:i≠r):AV m1 r c i k r=m1 r:=by
 unfold AV;rw [if_neg (Ne.symm h)];exact mxr_r _ _ _ _
theorem less_at {k:Nat} (h:i≠r):dD m1 r (fc m1 r c) i k=m1 i k-fc m1 r c i*m1 r k:=by
 unfold dD;rw [if_neg h]
theorem swp_I (m:Nat->Nat->Rat) (r p i:Nat):dI m r p i=m (aM r p i):=by
 unfold dI aM;by_cases d:i=r
 ·by_cases a:i=p
  ·rw [if_pos d,if_pos a];congr 1
   omega
  ·rw [if_pos d,if_neg a,if_pos d]
 ·rw [if_neg d];by_cases a:i=p
  ·rw [if_pos a,if_pos a]
  ·rw [if_neg a,if_neg a,if_neg d]
theorem swp_r (m:Nat->Nat->Rat) (r p:Nat):dI m r p r=m p:=by unfold dI;rw [if_pos rfl]
section
variable {n:Nat} {W:Nat->Nat->Rat} {s:Nat->Rat} {m:Nat->Nat->Rat} {r c p:Nat} {P:Nat->Nat} {perm:List Nat}
theorem gj_col (e:∀ q,s q≠0) (h:Gj n W s m r c P perm) (hc:c<=n) (f:r<=p) (d:p<n) (a:m p c≠0) :
  Gj n W s (dD (dI m r p) r (fc (dI m r p) r c)) (r+1) (c+1) (fun j=>if j=r then c else P j) (dE perm r p) :=
 gj_step e h hc f d a _ fun i hi g=>by
  unfold fc;rw [swp_r];exact Am _ _ a
theorem col_low (h:Gj n W s m r c P perm) (d:r<=p) (a:p<n):∀ k,k<c->dI m r p r k=0:=fun k e=>by
 rw [swp_r];exact h.red.low p d a k e
theorem lc_col (hc:c<=n):lc n (fun j=>if j=r then c else P j) (r+1)=lc n P r+if c<n then 1 else 0:=by
 rw [lc,if_pos rfl,uF (Q:=P) r fun j a=>if_neg O]
theorem ans_col (h:Gj n W s m r c P perm) (d:r<=p) (a:p<n) (f:Nat->Rat) (y:Nat->Rat):tH n (dD (dI m r p) r f) y↔tH n m y :=
 (BT O _ f y).trans (ans_swp O a m y)
theorem gj_end (h:Gj n W s m r c P perm) (p:¬ (c<=n/\r<n)) :
  (lc n P r<r/\∀ y,¬ tH n m y)∨(lc n P r=r/\r<n/\∃ y z q,tH n m y/\tH n m z/\q<n/\y q≠z q)
   ∨ (lc n P r=n/\r=n/\tH n m (fun i=>m i n / m i i)/\(∀ y,tH n m y->∀ i,i<n->y i=m i n / m i i)/\∀ i,i<n->m i i≠0):=by
 have d:=h.red;have t:=d.rn;have u:=d.cn;by_cases f:∃ j,j<r/\¬ P j<n
 ·obtain ⟨j,f,hP⟩:=f;have:=d.at_ j f;exact .inl ⟨yK hP r f,fun y=>Ct d j f O y⟩
 ·have a:∀ j,j<r->P j<n:=fun j k=>by
   apply Classical.byContradiction;intro g;exact f ⟨j,k,g⟩
  by_cases l:r<n
  ·have hc:c=n+1:=O
   rw [hc] at d;exact .inr (.inl ⟨xx r a,l,end_two d a l⟩)
  ·have e:r=n:=O
   subst e;obtain ⟨x,g⟩:=end_one d a;refine .inr (.inr ⟨xx _ a,rfl,x,g,fun i hi=>?_⟩);have o:=d.lead i hi;rw [EJ d a (r-i) i O hi] at o;exact o
end
end Rk
def lE (n:Nat) (y:Nat->Rat) (R:Nat->Rat):Rat:=Rk.sm (fun u=>R u*y u) n-R n
def iz (y:Nat->Rat) (j:Nat):Rat:=if j=0 then 0 else y (j-1)
theorem ya : ∀ n,i<n->Rk.sm (fun u=>aJ R i q u*y u) n=Rk.sm (fun u=>R u*y u) n+(q-R i)*y i
 | 0,h=>absurd h (Nat.not_lt_zero _)
 | n+1,h=>by
  rw [Rk.sm,Rk.sm];by_cases e:i=n
  ·subst e;have e2:Rk.sm (fun u=>aJ R i q u*y u) i=Rk.sm (fun u=>R u*y u) i:=Rk.mu i fun u hu=>by
    unfold aJ;rw [if_neg O]
   rw [e2];unfold aJ;rw [if_pos rfl];grind
  ·rw [ya n O];have e2:aJ R i q n=R n:=by
    unfold aJ;rw [if_neg (fun h=>e h.symm)]
   rw [e2];grind
theorem pW (hi:i<n) (a:R i=0):lE n y (aJ R i q)=lE n y R+q*y i:=by
 unfold lE;rw [ya n hi,a];have e:aJ R i q n=R n:=by
  unfold aJ;rw [if_neg O]
 rw [e];grind
theorem Bj (a:R n=0):lE n y (aJ R n q)=lE n y R-q:=by
 unfold lE;have e:Rk.sm (fun u=>aJ R n q u*y u) n=Rk.sm (fun u=>R u*y u) n:=Rk.mu n fun u d=>by
  unfold aJ;rw [if_neg O]
 rw [e,a];unfold aJ;rw [if_pos rfl];grind
theorem zU (R:Nat->Rat) (node:Nat) (x:Rat):cE R (node:Int) x=if node=0 then R else aJ R (node-1) (R (node-1)+x):=by
 funext j
 unfold cE;by_cases h:node=0
 ·rw [if_pos h,if_neg O]
 ·rw [if_neg h];unfold aJ;by_cases e:j=node-1
  ·rw [if_pos ⟨O,O⟩,if_pos e,e]
  ·rw [if_neg O,if_neg e]
theorem fZ {node:Nat} {x:Rat} (h:node<=n):lE n y (cE R (node:Int) x)=lE n y R+x*iz y node:=by
 rw [zU];unfold iz;by_cases a:node=0
 ·rw [if_pos a,if_pos a];grind
 ·rw [if_neg a,if_neg a];unfold lE;rw [ya n O];have e:aJ R (node-1) (R (node-1)+x) n=R n:=by
   unfold aJ;rw [if_neg O]
  rw [e];grind
theorem kG (n:Nat) (y:Nat->Rat):lE n y (fun _=>0)=0:=by
 unfold lE;rw [Rk.oy n fun k _=>by grind];show (0:Rat)-0=0
 grind
theorem oO {node:Int} {x:Rat} {u:Nat} (h:node<=N) (a:N<=u):cE R node x u=R u:=by
 unfold cE;rw [if_neg O]
def dL (ps:List aD) (i:Nat):Rat:=match ps[i]? with | some p=>bE p.kind p.q | none=>0
def ff (ps:List aD) (i:Nat):Rat:=match ps[i]? with | some p=>bF p.kind p.q | none=>0
def fi (ps:List aD) (i:Nat):Rat:=match ps[i]? with | some p=>bG p.kind p.q | none=>0
theorem Cc (p:aD) (r:Nat):((iu p r:Int):Rat)=iQ p r:=by
 unfold iu iQ;split<;>split<;>decide +kernel
theorem mX (N:Nat) (ps:List aD) (r:Nat) (y:Nat->Rat):∀ i,i<=ps.length->lE (N+ps.length) y (du N ps r i)=cA (fun x=>dC ps x r*y (N+x)) i
 | 0,_=>by rw [nB];exact kG _ _
 | i+1,h=>by
  rw [<- gV N ps r i O,pW O (by unfold du;rw [if_neg O]),mX N ps r y i O,bR,Cc];unfold dC;rw [zX (show i<ps.length by omega)]
theorem rL (t:cD (N+1) ps) (y:Nat->Rat) (i:Nat) (hi:i<ps.length) :
  lE (N+ps.length) y (aW N ps (dL ps) (ff ps) (fi ps) (N+i))=bE ps[i].kind ps[i].q*(iz y ps[i].a.toNat-iz y ps[i].b.toNat)+bM ps[i].kind ps[i].q*(iz y ps[i].c.toNat-iz y ps[i].d.toNat)+bF ps[i].kind ps[i].q*y (N+i)-bG ps[i].kind ps[i].q:=by
 obtain ⟨A,B,C,D,h,j,k,l,E,lb,lc,F⟩:=t.ends _ (List.getElem_mem hi);obtain ⟨p,e⟩:=eX (ps[i]);rw [<- e] at h j k l ⊢;have m:p.q=fy p.v.data.toList:=rfl;by_cases f:p.kind=6
 ·rw [zi hi (by rw [<- e];exact f),<- e,<- m,h,j,k,l,fZ O,fZ O,fZ O,fZ O,kG,f];simp only [Int.toNat_natCast,bE,bM,bF,bG];grind
 ·by_cases g:p.kind=7
  ·rw [zj hi (by rw [<- e];exact g),<- e,<- m,k,l,fZ O,fZ O,pW O rfl,kG,g];simp only [Int.toNat_natCast,bE,bM,bF,bG];grind
  ·have o:∀ u,N<=u->cE (cE (fun _=>0) p.a (dL ps i)) p.b (-(dL ps i)) u=0:=fun u s=>by
    rw [oO (N:=N) O s,oO (N:=N) O s]
   have x:aJ (cE (cE (fun _=>0) p.a (dL ps i)) p.b (-(dL ps i))) (N+i) (ff ps i) (N+ps.length)=0:=by
    unfold aJ;rw [if_neg O];exact o _ O
   rw [oq hi (by rw [<- e];exact f) (by rw [<- e];exact g),<- e,Bj x,pW O (o _ O),h,j,fZ O,fZ O,kG];unfold dL ff fi;rw [zX hi,<- e];have z:bM p.kind p.q=0:=by unfold bM;rw [if_neg f,if_neg g]
   rw [z];simp only [Int.toNat_natCast];grind
theorem ref_net (g:cD (N+1) ps) (y:Nat->Rat):Rk.tH (N+ps.length) (aW N ps (dL ps) (ff ps) (fi ps)) y↔bD (N+1) ps (iz y) (fun i=>y (N+i)):=by
 have e:∀ j,j<N+ps.length->(Rk.sm (fun k=>aW N ps (dL ps) (ff ps) (fi ps) j k*y k) (N+ps.length)=aW N ps (dL ps) (ff ps) (fi ps) j (N+ps.length)↔lE (N+ps.length) y (aW N ps (dL ps) (ff ps) (fi ps) j)=0):=fun j _=>by
  unfold lE;constructor
  ·intro h;rw [h];grind
  ·intro h;grind
 have a:∀ j,j<N->aW N ps (dL ps) (ff ps) (fi ps) j=du N ps (j+1) ps.length:=fun j hj=>by
  unfold aW;rw [if_pos hj]
 constructor
 ·intro h;refine ⟨rfl,fun r l m=>?_,fun i hi=>?_⟩
  ·have d:=(e (r-1) O).1 (h (r-1) O);rw [a (r-1) O,show r-1+1=r by omega,mX N ps r y _ zL] at d;exact d
  ·have d:=(e (N+i) O).1 (h (N+i) O);rw [rL g y i hi] at d;grind
 ·intro h j hj;refine (e j hj).2 ?_;by_cases f:j<N
  ·rw [a j f,mX N ps (j+1) y _ zL];exact h.node (j+1) O O
  ·obtain ⟨i,rfl⟩:∃ i,j=N+i:=⟨j-N,O⟩;rw [rL g y i O];have:=h.part i O;grind
def mF (w:World) (b:Nat) (T:TypeId) (x y z:Value):Prop:=w.heap[b]? = some (Obj.cells #[x,y,z] T (0,0))
theorem mF.cells {T:TypeId} {x y z:Value} (h:mF w b T x y z):w.cell? ⟨b,0,none⟩=some x/\w.cell? ⟨b,1,none⟩=some y/\w.cell? ⟨b,2,none⟩=some z/\w.frozen? ⟨b,0,none⟩=false/\w.frozen? ⟨b,1,none⟩=false/\w.frozen? ⟨b,2,none⟩=false:=by
 unfold mF at h;exact ⟨by simp [World.cell?,h],by simp [World.cell?,h],by simp [World.cell?,h],by simp [World.frozen?,h],by simp [World.frozen?,h],by simp [World.frozen?,h]⟩
theorem mF.setN {T:TypeId} {x y z:Value} (h:mF w b T x y z) (f:(∃ p,x=.pointer (some p))∨x=.pointer none) (hy:(∃ p,y=.pointer (some p))∨y=.pointer none) (g:(∃ p,z=.pointer (some p))∨z=.pointer none) (u v s:Value) :
  mF (((w.setCell ⟨b,0,none⟩ u).setCell ⟨b,1,none⟩ v).setCell ⟨b,2,none⟩ s) b T u v s/\aI w (((w.setCell ⟨b,0,none⟩ u).setCell ⟨b,1,none⟩ v).setCell ⟨b,2,none⟩ s) b:=by
 have a:=heap_setCell_same w b 0 _ T u h;have d:=heap_setCell_same _ b 1 _ T v a;have j:=heap_setCell_same _ b 2 _ T s d;refine ⟨j,((aI.set h (fun k e=>?_) u).trans (aI.set a (fun k e=>?_) v)).trans (aI.set d (fun k e=>?_) s)⟩
 ·rcases f with ⟨p,rfl⟩ | rfl<;>simp at e
 ·rcases hy with ⟨p,rfl⟩ | rfl<;>simp at e
 ·rcases g with ⟨p,rfl⟩ | rfl<;>simp at e
def TieV (w:World) (q:aD) (M:Nat) (v:Value):Prop:=∃ a b c,v=.agg #[.pointer (some ⟨a,0,none⟩),.pointer (some ⟨b,0,none⟩),.pointer (some ⟨c,0,none⟩)]/\RV w a (bE q.kind q.q) M/\RV w b (bF q.kind q.q) M/\RV w c (bG q.kind q.q) M
theorem xt {q:aD} (h:q.kind=1):bE q.kind q.q=1/\bF q.kind q.q = -(fy q.v.data.toList)/\bG q.kind q.q=0:=by rw [h];exact ⟨by simp [bE],by simp [bF,aD.q,Rat.sub_eq_add_neg,Rat.zero_add],by simp [bG]⟩
theorem xu {q:aD} (h:q.kind=4):bE q.kind q.q=1/\bF q.kind q.q=0/\bG q.kind q.q=fy q.v.data.toList:=by rw [h];exact ⟨by simp [bE],by simp [bF],by simp [bG,aD.q]⟩
theorem xw {q:aD} (h:q.kind=5):bE q.kind q.q=0/\bF q.kind q.q=1/\bG q.kind q.q=fy q.v.data.toList:=by rw [h];exact ⟨by simp [bE],by simp [bF],by simp [bG,aD.q]⟩
theorem Bm (q:aD) (M:Nat) (ml:Int) (w:World) (h1:q.v.size<=1000000000) (h2:3*q.v.size+10<=M) (hM:M<=100000000000) (hk:w.cell? ⟨1,0,none⟩=some (.int .i64 ml)) :
  Calls Tryz.prog 24 #[.agg #[.int .i64 q.kind,.int .i64 q.a,.int .i64 q.b,.int .i64 q.c,.int .i64 q.d,.string q.v]] w fun e w'=>∃ (v:Value) (ok:Bool),e=.returned (.tuple #[v,.bool ok])/\w.grownBy w' none/\(ok=true↔q.kind=1∨q.kind=4∨q.kind=5)/\(ok=true->TieV w' q M v)/\(ok=false->v=.agg #[.pointer none,.pointer none,.pointer none]):=by
 have hl:=ab hk;obtain ⟨Y,he⟩:=eX w.heap.size;obtain ⟨gt,U⟩:=eX (w.heap.size+1);obtain ⟨W,hW⟩:=eX ((w.alloc (Obj.cells #[.int .i64 q.kind,.int .i64 q.a,.int .i64 q.b,.int .i64 q.c,.int .i64 q.d,.string q.v] 45)).alloc (Obj.cells #[.pointer none,.pointer none,.pointer none] 70));have GW:Hid (w.grownBy W none):=by rw [hW];exact ag (ag (ae _ _) _) _
 have X:Hid (w.heap.size<=gt):=by show _<=_;omega
 have hf:Hid (Y≠gt):=by show _≠_;omega
 have t:Hid (gt<W.heap.size):=by show _<_;rw [hW,U];simp
 have ML:Hid (∀ wx,W.grownBy wx none->wx.cell? ⟨1,0,none⟩=some (.int .i64 ml)):=fun wx hg=>(aa GW hg).cell hl Z
 have F:Hid (∀ wx,W.grownBy wx none->wx.cell? ⟨Y,5,none⟩=some (.string q.v)):=by
  intro wx hg;rw [hW] at hg;rw [he];exact hg.cell zG Z
 have S0:Hid (∀ wx,W.grownBy wx none->wx.cell? ⟨Y,0,none⟩=some (.int .i64 q.kind)):=by
  intro wx hg;rw [hW] at hg;rw [he];exact hg.cell zG Z
 have TB:Hid (∀ wx,W.grownBy wx none->mF wx gt 70 (.pointer none) (.pointer none) (.pointer none)):=by
  intro wx hg;have hh:=heap_alloc_new (w.alloc (Obj.cells #[.int .i64 q.kind,.int .i64 q.a,.int .i64 q.b,.int .i64 q.c,.int .i64 q.d,.string q.v] 45)) (Obj.cells #[.pointer none,.pointer none,.pointer none] 70);have e:(w.alloc (Obj.cells #[.int .i64 q.kind,.int .i64 q.a,.int .i64 q.b,.int .i64 q.c,.int .i64 q.d,.string q.v] 45)).heap.size=gt:=by rw [U];simp
  rw [e] at hh;unfold mF;rw [hg.block gt (by rw [hW,U];simp) Z,hW];exact hh
 have hj:Hid (∀ wx,wx.cell? ⟨1,0,none⟩=some (.int .i64 ml)->Calls Tryz.prog 45 #[.string q.v] wx fun e w'=>∃ b,e=.returned (.pointer (some ⟨b,0,none⟩))/\wx.grownBy w' none/\wx.heap.size<=b/\RV w' b (fy q.v.data.toList) (M-2)):=fun wx h=>ze q.v (M-2) ml wx h1 O h
 go_enter Tryz.func24,Tryz.ntmps24
 go_upto_region 1 with fail;rw [<- U,<- he,<- hW];have GG:W.grownBy W none:=ae _ _;have s0:=S0.out W GG;have s5:=F.out W GG;clear hW U he GG;by_cases k1:q.kind=1
 ·have b1:(q.kind==1)=true:=by simp [k1]
  have K1:=ab k1;clear k1;go_upto_region 3 with fail;refine hd (fun w'=>w'.cell? ⟨Y,5,none⟩=some (.string q.v)) (fun hHeld=>?_);refine tk 7 [(1,9,.pointer (some ⟨Y,5,none⟩)),(2,10,.string q.v)] ?_;try simp only [pA,pL,vA,vL,q0,q1,q2,q3]
  have GG:W.grownBy W.drew none:=aA;refine de 6 0 (fun K f=>?_);simp only [ax,q4,q5,q6,q7];go_simp
  go_at_call 22
  refine (fm 1 _ O O).mono ?_;rintro e m ⟨B,rfl,o,g,p⟩;have u:Hid (W.heap.size<=B):=Nat.le_trans (gx GG).size p;have j:=aa (gx GG) g;have k0:=F.out m j;have GG:=j;have k:Hid (RV m B (1:Rat) 4):=.inl o;clear o g p j;go_wp2_with fail;refine bk f (fun hHeld=>?_);clear f K;try simp only [pA,pL,vA,vL,q0,q1,q2,q3]
  refine de 5 3 (fun K f=>?_);simp only [ax,q4,q5,q6,q7];go_simp
  go_at_call 45
  refine (hj _ (ML _ (gx GG))).mono ?_;rintro e m ⟨bo,rfl,g,p,o⟩;have hm:Hid (W.heap.size<=bo):=Nat.le_trans (gx GG).size p;have j:=aa (gx GG) g;have k0:=F.out m j;have k:=ab (k.keep0 (aa (gx (ae _ _)) g));have GG:=j;have G:=ab o;clear o g p j;go_wp2_with fail;refine bk f (fun hHeld=>?_);clear f K;try simp only [pA,pL,vA,vL,q0,q1,q2,q3]
  refine de 4 4 (fun K f=>?_);simp only [ax,q4,q5,q6,q7];go_simp
  go_at_call 44
  refine (mh bo _ (M-2) _ ((G.x O).keep0 (gx (ae _ _))) O).mono ?_;rintro e m ⟨C,rfl,o,g,p⟩;have z:Hid (W.heap.size<=C):=Nat.le_trans (gx GG).size p;have j:=aa (gx GG) g;have k0:=F.out m j;have k:=ab (k.keep0 (aa (gx (ae _ _)) g));have G:=ab (G.keep0 (aa (gx (ae _ _)) g));have GG:=j;have s:Hid (RV m C (-(fy q.v.data.toList)) (M-2+2)):=.inl o;clear o g p j;go_wp2_with fail;refine bk f (fun hHeld=>?_);clear f K;try simp only [pA,pL,vA,vL,q0,q1,q2,q3]
  refine de 3 5 (fun K f=>?_);simp only [ax,q4,q5,q6,q7];go_simp
  go_at_call 22
  refine (fm 0 _ O O).mono ?_;rintro e m ⟨E,rfl,o,g,p⟩;have A:Hid (W.heap.size<=E):=Nat.le_trans (gx GG).size p;have j:=aa (gx GG) g;have k0:=F.out m j;have k:=ab (k.keep0 (aa (gx (ae _ _)) g));have G:=ab (G.keep0 (aa (gx (ae _ _)) g));have s:=ab (s.keep0 (aa (gx (ae _ _)) g));have GG:=j;have H:Hid (RV m E (0:Rat) 4):=.inl o;clear o g p j;go_wp2_with fail;refine bk f (fun hHeld=>?_);clear f K;try simp only [pA,pL,vA,vL,q0,q1,q2,q3]
  refine tk 2 [(6,14,.agg #[.pointer (some ⟨B,0,none⟩),.pointer (some ⟨C,0,none⟩),.pointer (some ⟨E,0,none⟩)])] ?_;try simp only [pA,pL,vA,vL,q0,q1,q2,q3]
  have D:=TB.out m GG;obtain ⟨c0,c1,c2,f0,f1,f2⟩:=mF.cells D;obtain ⟨V,l⟩:=mF.setN D (.inr rfl) (.inr rfl) (.inr rfl) (.pointer (some ⟨B,0,none⟩)) (.pointer (some ⟨C,0,none⟩)) (.pointer (some ⟨E,0,none⟩));have I:=l.1.cell k0 (fun e=>hf (zJ e));refine de 1 7 (fun K f=>?_);simp only [ax,q4,q5,q6,q7];go_simp
  refine bk f (fun hHeld=>?_) (hS:=I);clear f K;try simp only [pA,pL,vA,vL,q0,q1,q2,q3]
  refine de 0 8 (fun K f=>?_);simp only [ax,q4,q5,q6,q7];go_simp
  refine bk f (fun hHeld=>?_) (hS:=I);clear f K;try simp only [pA,pL,vA,vL,q0,q1,q2,q3]
  refine wpAnyH_done zK ?_ _;have HG:=ab (fM (aa GW GG) l.1 (fun r e=>by cases e;exact X));have Q:=ab (k.keepW l.1 l.2 (fun e=>by have:=zJ e;have:=u.out;have:=t.out;omega));have S:=ab (s.keepW l.1 l.2 (fun e=>by have:=zJ e;have:=z.out;have:=t.out;omega));have T:=ab (H.keepW l.1 l.2 (fun e=>by have:=zJ e;have:=A.out;have:=t.out;omega));obtain ⟨d0,d1,d2,_⟩:=mF.cells V;clear D c0 c1 c2 f0 f1 f2 V l GG I k0;go_wp2;refine bodyPost_ret (v:=.tuple #[.agg #[.pointer (some ⟨B,0,none⟩),.pointer (some ⟨C,0,none⟩),.pointer (some ⟨E,0,none⟩)],.bool true]) (by simp [results,Tryz.results24,go_sem,d0,d1,d2]) rfl ?_;exact ⟨_,_,rfl,HG,by simp [K1.out],fun _=>⟨_,_,_,rfl,by rw [(xt K1).1];exact Q.mono O,by rw [(xt K1).2.1];exact S.mono O,by rw [(xt K1).2.2];exact T.mono O⟩,fun h=>by cases h⟩
 ·have b1:(q.kind==1)=false:=by simp [k1]
  have N1:=ab k1;clear k1;by_cases k4:q.kind=4
  ·have b4:(q.kind==4)=true:=by simp [k4]
   have K4:=ab k4;clear k4;go_upto_region 5 with fail;refine hd (fun w'=>w'.cell? ⟨Y,5,none⟩=some (.string q.v)) (fun hHeld=>?_);refine tk 6 [(2,19,.pointer (some ⟨Y,5,none⟩)),(3,20,.string q.v)] ?_;try simp only [pA,pL,vA,vL,q0,q1,q2,q3]
   have GG:W.grownBy W.drew none:=aA;refine de 5 0 (fun K f=>?_);simp only [ax,q4,q5,q6,q7];go_simp
   go_at_call 22
   refine (fm 1 _ O O).mono ?_;rintro e m ⟨B,rfl,o,g,p⟩;have u:Hid (W.heap.size<=B):=Nat.le_trans (gx GG).size p;have j:=aa (gx GG) g;have k0:=F.out m j;have GG:=j;have k:Hid (RV m B (1:Rat) 4):=.inl o;clear o g p j;go_wp2_with fail;refine bk f (fun hHeld=>?_);clear f K;try simp only [pA,pL,vA,vL,q0,q1,q2,q3]
   refine de 4 1 (fun K f=>?_);simp only [ax,q4,q5,q6,q7];go_simp
   go_at_call 22
   refine (fm 0 _ O O).mono ?_;rintro e m ⟨C,rfl,o,g,p⟩;have z:Hid (W.heap.size<=C):=Nat.le_trans (gx GG).size p;have j:=aa (gx GG) g;have k0:=F.out m j;have k:=ab (k.keep0 (aa (gx (ae _ _)) g));have GG:=j;have s:Hid (RV m C (0:Rat) 4):=.inl o;clear o g p j;go_wp2_with fail;refine bk f (fun hHeld=>?_);clear f K;try simp only [pA,pL,vA,vL,q0,q1,q2,q3]
   refine de 3 4 (fun K f=>?_);simp only [ax,q4,q5,q6,q7];go_simp
   go_at_call 45
   refine (hj _ (ML _ (gx GG))).mono ?_;rintro e m ⟨E,rfl,g,p,o⟩;have A:Hid (W.heap.size<=E):=Nat.le_trans (gx GG).size p;have j:=aa (gx GG) g;have k0:=F.out m j;have k:=ab (k.keep0 (aa (gx (ae _ _)) g));have s:=ab (s.keep0 (aa (gx (ae _ _)) g));have GG:=j;have H:=ab o;clear o g p j;go_wp2_with fail;refine bk f (fun hHeld=>?_);clear f K;try simp only [pA,pL,vA,vL,q0,q1,q2,q3]
   refine tk 2 [(5,22,.agg #[.pointer (some ⟨B,0,none⟩),.pointer (some ⟨C,0,none⟩),.pointer (some ⟨E,0,none⟩)])] ?_;try simp only [pA,pL,vA,vL,q0,q1,q2,q3]
   have D:=TB.out m GG;obtain ⟨c0,c1,c2,f0,f1,f2⟩:=mF.cells D;obtain ⟨V,l⟩:=mF.setN D (.inr rfl) (.inr rfl) (.inr rfl) (.pointer (some ⟨B,0,none⟩)) (.pointer (some ⟨C,0,none⟩)) (.pointer (some ⟨E,0,none⟩));have I:=l.1.cell k0 (fun e=>hf (zJ e));refine de 1 6 (fun K f=>?_);simp only [ax,q4,q5,q6,q7];go_simp
   refine bk f (fun hHeld=>?_) (hS:=I);clear f K;try simp only [pA,pL,vA,vL,q0,q1,q2,q3]
   refine de 0 7 (fun K f=>?_);simp only [ax,q4,q5,q6,q7];go_simp
   refine bk f (fun hHeld=>?_) (hS:=I);clear f K;try simp only [pA,pL,vA,vL,q0,q1,q2,q3]
   refine wpAnyH_done zK ?_ _;have HG:=ab (fM (aa GW GG) l.1 (fun r e=>by cases e;exact X));have Q:=ab (k.keepW l.1 l.2 (fun e=>by have:=zJ e;have:=u.out;have:=t.out;omega));have S:=ab (s.keepW l.1 l.2 (fun e=>by have:=zJ e;have:=z.out;have:=t.out;omega));have T:=ab (H.keepW l.1 l.2 (fun e=>by have:=zJ e;have:=A.out;have:=t.out;omega));obtain ⟨d0,d1,d2,_⟩:=mF.cells V;clear D c0 c1 c2 f0 f1 f2 V l GG I k0;go_wp2;refine bodyPost_ret (v:=.tuple #[.agg #[.pointer (some ⟨B,0,none⟩),.pointer (some ⟨C,0,none⟩),.pointer (some ⟨E,0,none⟩)],.bool true]) (by simp [results,Tryz.results24,go_sem,d0,d1,d2]) rfl ?_;exact ⟨_,_,rfl,HG,by simp [K4.out],fun _=>⟨_,_,_,rfl,by rw [(xu K4).1];exact Q.mono O,by rw [(xu K4).2.1];exact S.mono O,by rw [(xu K4).2.2];exact T.mono O⟩,fun h=>by cases h⟩
  ·have b4:(q.kind==4)=false:=by simp [k4]
   have N4:=ab k4;clear k4;by_cases k5:q.kind=5
   ·have b5:(q.kind==5)=true:=by simp [k5]
    have K5:=ab k5;clear k5;go_upto_region 7 with fail;refine hd (fun w'=>w'.cell? ⟨Y,5,none⟩=some (.string q.v)) (fun hHeld=>?_);refine tk 6 [(2,27,.pointer (some ⟨Y,5,none⟩)),(3,28,.string q.v)] ?_;try simp only [pA,pL,vA,vL,q0,q1,q2,q3]
    have GG:W.grownBy W.drew none:=aA;refine de 5 0 (fun K f=>?_);simp only [ax,q4,q5,q6,q7];go_simp
    go_at_call 22
    refine (fm 0 _ O O).mono ?_;rintro e m ⟨B,rfl,o,g,p⟩;have u:Hid (W.heap.size<=B):=Nat.le_trans (gx GG).size p;have j:=aa (gx GG) g;have k0:=F.out m j;have GG:=j;have k:Hid (RV m B (0:Rat) 4):=.inl o;clear o g p j;go_wp2_with fail;refine bk f (fun hHeld=>?_);clear f K;try simp only [pA,pL,vA,vL,q0,q1,q2,q3]
    refine de 4 1 (fun K f=>?_);simp only [ax,q4,q5,q6,q7];go_simp
    go_at_call 22
    refine (fm 1 _ O O).mono ?_;rintro e m ⟨C,rfl,o,g,p⟩;have z:Hid (W.heap.size<=C):=Nat.le_trans (gx GG).size p;have j:=aa (gx GG) g;have k0:=F.out m j;have k:=ab (k.keep0 (aa (gx (ae _ _)) g));have GG:=j;have s:Hid (RV m C (1:Rat) 4):=.inl o;clear o g p j;go_wp2_with fail;refine bk f (fun hHeld=>?_);clear f K;try simp only [pA,pL,vA,vL,q0,q1,q2,q3]
    refine de 3 4 (fun K f=>?_);simp only [ax,q4,q5,q6,q7];go_simp
    go_at_call 45
    refine (hj _ (ML _ (gx GG))).mono ?_;rintro e m ⟨E,rfl,g,p,o⟩;have A:Hid (W.heap.size<=E):=Nat.le_trans (gx GG).size p;have j:=aa (gx GG) g;have k0:=F.out m j;have k:=ab (k.keep0 (aa (gx (ae _ _)) g));have s:=ab (s.keep0 (aa (gx (ae _ _)) g));have GG:=j;have H:=ab o;clear o g p j;go_wp2_with fail;refine bk f (fun hHeld=>?_);clear f K;try simp only [pA,pL,vA,vL,q0,q1,q2,q3]
    refine tk 2 [(5,30,.agg #[.pointer (some ⟨B,0,none⟩),.pointer (some ⟨C,0,none⟩),.pointer (some ⟨E,0,none⟩)])] ?_;try simp only [pA,pL,vA,vL,q0,q1,q2,q3]
    have D:=TB.out m GG;obtain ⟨c0,c1,c2,f0,f1,f2⟩:=mF.cells D;obtain ⟨V,l⟩:=mF.setN D (.inr rfl) (.inr rfl) (.inr rfl) (.pointer (some ⟨B,0,none⟩)) (.pointer (some ⟨C,0,none⟩)) (.pointer (some ⟨E,0,none⟩));have I:=l.1.cell k0 (fun e=>hf (zJ e));refine de 1 6 (fun K f=>?_);simp only [ax,q4,q5,q6,q7];go_simp
    refine bk f (fun hHeld=>?_) (hS:=I);clear f K;try simp only [pA,pL,vA,vL,q0,q1,q2,q3]
    refine de 0 7 (fun K f=>?_);simp only [ax,q4,q5,q6,q7];go_simp
    refine bk f (fun hHeld=>?_) (hS:=I);clear f K;try simp only [pA,pL,vA,vL,q0,q1,q2,q3]
    refine wpAnyH_done zK ?_ _;have HG:=ab (fM (aa GW GG) l.1 (fun r e=>by cases e;exact X));have Q:=ab (k.keepW l.1 l.2 (fun e=>by have:=zJ e;have:=u.out;have:=t.out;omega));have S:=ab (s.keepW l.1 l.2 (fun e=>by have:=zJ e;have:=z.out;have:=t.out;omega));have T:=ab (H.keepW l.1 l.2 (fun e=>by have:=zJ e;have:=A.out;have:=t.out;omega));obtain ⟨d0,d1,d2,_⟩:=mF.cells V;clear D c0 c1 c2 f0 f1 f2 V l GG I k0;go_wp2;refine bodyPost_ret (v:=.tuple #[.agg #[.pointer (some ⟨B,0,none⟩),.pointer (some ⟨C,0,none⟩),.pointer (some ⟨E,0,none⟩)],.bool true]) (by simp [results,Tryz.results24,go_sem,d0,d1,d2]) rfl ?_;exact ⟨_,_,rfl,HG,by simp [K5.out],fun _=>⟨_,_,_,rfl,by rw [(xw K5).1];exact Q.mono O,by rw [(xw K5).2.1];exact S.mono O,by rw [(xw K5).2.2];exact T.mono O⟩,fun h=>by cases h⟩
   ·have b5:(q.kind==5)=false:=by simp [k5]
    have N5:=ab k5;clear k5;have D:=TB.out _ (ae W _);obtain ⟨c0,c1,c2,f0,f1,f2⟩:=mF.cells D;obtain ⟨V,l⟩:=mF.setN D (.inr rfl) (.inr rfl) (.inr rfl) (.pointer none) (.pointer none) (.pointer none);have HG:=ab (fM GW l.1 (fun r e=>by cases e;exact X));obtain ⟨d0,d1,d2,_⟩:=mF.cells V;clear D V l;go_wp2;refine bodyPost_ret (v:=.tuple #[.agg #[.pointer none,.pointer none,.pointer none],.bool false]) (by simp [results,Tryz.results24,go_sem,d0,d1,d2]) rfl ?_;exact ⟨_,_,rfl,HG,by simp [N1.out,N4.out,N5.out],fun h=>(by cases h),fun _=>rfl⟩
end Go.Proofs.YtkbmbmdemajoaaaGreatDoor
