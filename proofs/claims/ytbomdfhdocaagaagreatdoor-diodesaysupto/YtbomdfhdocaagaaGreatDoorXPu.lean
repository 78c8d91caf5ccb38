/- Contracts. -/
import Derived.Test.YtbomdfhdocaagaaGreatDoorXPs
import Derived.Test.YtbomdfhdocaagaaGreatDoorXPl
namespace Go.Proofs.YtbomdfhdocaagaaGreatDoor
open Go.RowKit
set_option linter.all false
set_option maxHeartbeats 8000000
set_option maxRecDepth 10000
variable {w w':World} {n b L i c base N:Nat} {R y K J O:Nat->Rat} {q:Rat} {v:Value} {r:Option Nat} {bs cs P:Nat->Nat} {m1:Nat->Nat->Rat} {ps:List aA} {xs:List (Option Nat)}
theorem ay.keepW {off:Nat} {z:Int} (h:ay w b off z L) (g:w.grownBy w' r) (k:aO w w') (f:some b≠r):ay w' b off z L:=by
 obtain ⟨neg,v,d,j,l⟩:=h;have e:w'.heap[b]? = w.heap[b]?:=g.block b d.lt f;exact ⟨neg,v,⟨(World.cell?_of_block (a:=⟨b,off,none⟩) e).trans d.c0,(World.cell?_of_block (a:=⟨b,off+1,none⟩) e).trans d.c1,(World.frozen?_of_block (a:=⟨b,off,none⟩) e).trans d.f0,(World.frozen?_of_block (a:=⟨b,off+1,none⟩) e).trans d.f1⟩,j.kept k,l⟩
theorem RV.keepW (h:RV w b q L) (g:w.grownBy w' r) (k:aO w w') (a:some b≠r):RV w' b q L:=by
 rcases h with h | ⟨e,h⟩
 ·exact .inl ⟨h.1.keepW g k a,h.2.1.keepW g k a,h.2.2⟩
 ·exact .inr ⟨e,h.1.keepW g k a,h.2.keepW g k a⟩
theorem RV.bool (h:RV w b q L):∃ x,w.cell? ⟨b,0,none⟩=some (.bool x):=by
 obtain ⟨z,y,⟨a,v1,d,_⟩,_⟩:=h.ints;exact ⟨a,d.c0⟩
def zb (w:World) (r:Option Nat):Prop:=∀ k,r=some k->∃ v,w.cell? ⟨k,0,none⟩=some v/\∀ x,v≠.bool x
theorem zb.none (w:World):zb w none:=fun k e=>by cases e
theorem RV.apart (h:RV w b q L) (n:zb w r):some b≠r:=by
 intro e;obtain ⟨v,a,d⟩:=n b e.symm;obtain ⟨x,f⟩:=h.bool;rw [f] at a;exact d x (zJ a).symm
def di (w:World) (b n:Nat) (R:Nat->Rat) (L:Nat):Prop :=
 ∃ cur e,w.heap[b]? = some (.cells cur e (0,0))/\∀ i,i<n->∃ p,cur[i]? = some (.pointer (some ⟨p,0,none⟩))/\RV w p (R i) L
theorem di.lt (h:di w b n R L):b<w.heap.size:=by
 obtain ⟨a,e,hb,_⟩:=h;exact (zZ hb).1
theorem di.keep (h:di w b n R L) (g:w.grownBy w' r) (k:aO w w') (d:some b≠r) (hn:zb w r):di w' b n R L:=by
 have f:=h.lt;obtain ⟨a,e,hb,hc⟩:=h;refine ⟨a,e,by rw [g.block b f d];exact hb,fun i hi=>?_⟩;obtain ⟨p,c0,c1⟩:=hc i hi;exact ⟨p,c0,c1.keepW g k (c1.apart hn)⟩
theorem di.keep0 (h:di w b n R L) (g:w.grownBy w' none):di w' b n R L:=h.keep g (aO.of_gr g) Z (zb.none w)
theorem di.congr {R':Nat->Rat} (h:di w b n R L) (e:∀ i,i<n->R i=R' i):di w b n R' L:=by
 obtain ⟨a,d,hb,hc⟩:=h;refine ⟨a,d,hb,fun i hi=>?_⟩;rw [<- e i hi];exact hc i hi
theorem di.at (h:di w b n R L) (i:Nat) (hi:i<n) :
  ∃ p,w.cell? ⟨b,i,none⟩=some (.pointer (some ⟨p,0,none⟩))/\RV w p (R i) L/\∀ k,w.frozen? ⟨b,k,none⟩=false:=by
 obtain ⟨a,e,hb,hc⟩:=h;obtain ⟨p,c0,c1⟩:=hc i hi;exact ⟨p,by simp only [World.cell?,hb];exact c0,c1,fun k=>by simp [World.frozen?,hb]⟩
theorem di.noB (h:di w b n R L) (hn:0<n):zb w (some b):=by
 intro k e;obtain rfl:=zJ e;obtain ⟨p,c0,_⟩:=h.at 0 hn;exact ⟨_,c0,fun x=>Z⟩
theorem di.set (h:di w b n R L) (i:Nat) (hi:i<n) {p:Nat} (k:RV w p q L) :
  di (w.setCell ⟨b,i,none⟩ (.pointer (some ⟨p,0,none⟩))) b n (aN R i q) L/\aK w (w.setCell ⟨b,i,none⟩ (.pointer (some ⟨p,0,none⟩))) b:=by
 have a:=h.noB O;obtain ⟨g,e,hb,hc⟩:=h;obtain ⟨t,c0,c1⟩:=hc i hi;have d:aK w (w.setCell ⟨b,i,none⟩ (.pointer (some ⟨p,0,none⟩))) b:=aK.set hb (fun x ex=>by rw [c0] at ex;cases ex) _;refine ⟨⟨_,e,heap_setCell_same w b i g e _ hb,fun j s=>?_⟩,d⟩;by_cases f:j=i
 ·subst f;refine ⟨p,Array.getElem?_setIfInBounds_self_of_lt (zZ c0).1,?_⟩;unfold aN;rw [if_pos rfl];exact k.keepW d.1 d.2 (k.apart a)
 ·obtain ⟨m,o,l⟩:=hc j s;refine ⟨m,by rw [Array.getElem?_setIfInBounds_ne (fun e=>f e.symm)];exact o,?_⟩;unfold aN;rw [if_neg f];exact l.keepW d.1 d.2 (l.apart a)
structure dh (w:World) (br m n:Nat) (bs cs:Nat->Nat) (R:Nat->Nat->Rat) (L:Nat):Prop where
 top:∃ cur e,w.heap[br]? = some (.cells cur e (0,0))/\∀ i,i<m->cur[i]? = some (.slice (some ⟨bs i,0,none⟩) n (cs i))
 cap:∀ i,i<m->n<=cs i/\cs i<=maxLen
 row:∀ i,i<m->di w (bs i) n (R i) L
 inj:∀ i j,i<m->j<m->bs i=bs j->i=j
 off:∀ i,i<m->bs i≠br
section
variable {w w':World} {br m n L:Nat} {bs cs:Nat->Nat} {R R':Nat->Nat->Rat}
theorem dh.lt (h:dh w br m n bs cs R L):br<w.heap.size:=by
 obtain ⟨a,e,hb,_⟩:=h.top;exact (zZ hb).1
theorem dh.cell (h:dh w br m n bs cs R L) (i:Nat) (hi:i<m):w.cell? ⟨br,i,none⟩=some (.slice (some ⟨bs i,0,none⟩) n (cs i))/\∀ k,w.frozen? ⟨br,k,none⟩=false:=by
 obtain ⟨a,e,hb,hc⟩:=h.top;exact ⟨by simp only [World.cell?,hb];exact hc i hi,fun k=>by simp [World.frozen?,hb]⟩
theorem dh.noB (h:dh w br m n bs cs R L) (a:0<m):zb w (some br):=by
 intro k e;obtain rfl:=zJ e;exact ⟨_,(h.cell 0 a).1,fun x=>Z⟩
theorem dh.keep0 (h:dh w br m n bs cs R L) (g:w.grownBy w' none):dh w' br m n bs cs R L:=by
 have d:=h.lt;obtain ⟨a,e,hb,hc⟩:=h.top;exact ⟨⟨a,e,by rw [g.block br d Z];exact hb,hc⟩,h.cap,fun i hi=>(h.row i hi).keep0 g,h.inj,h.off⟩
theorem dh.congr (h:dh w br m n bs cs R L) (e:∀ i,i<m->∀ j,j<n->R i j=R' i j):dh w br m n bs cs R' L:=⟨h.top,h.cap,fun i hi=>(h.row i hi).congr (e i hi),h.inj,h.off⟩
theorem dh.step (h:dh w br m n bs cs R L) (hn:0<n) (hi:i<m) {Q:Nat->Rat} (l:di w' (bs i) n Q L) (g:aK w w' (bs i)):dh w' br m n bs cs (fun j=>if j=i then Q else R j) L:=by
 have o:=h.lt;have d:=(h.row i hi).noB hn;obtain ⟨f,e,hb,hc⟩:=h.top;refine ⟨⟨f,e,by rw [g.1.block br o (fun e=>h.off i hi (zJ e).symm)];exact hb,hc⟩,h.cap,fun j k=>?_,h.inj,h.off⟩;by_cases a:j=i
 ·subst a;simp only [if_true];exact l
 ·simp only [if_neg a];exact (h.row j k).keep g.1 g.2 (fun e=>a (h.inj j i k hi (zJ e))) d
theorem dh.swap (h:dh w br m n bs cs R L) {a:Nat} (ha:a<m) (hb:b<m) :
  dh ((w.setCell ⟨br,a,none⟩ (.slice (some ⟨bs b,0,none⟩) n (cs b))).setCell ⟨br,b,none⟩ (.slice (some ⟨bs a,0,none⟩) n (cs a))) br m n (fun i=>bs (aP a b i)) (fun i=>cs (aP a b i)) (fun i=>R (aP a b i)) L
  /\ aK w ((w.setCell ⟨br,a,none⟩ (.slice (some ⟨bs b,0,none⟩) n (cs b))).setCell ⟨br,b,none⟩ (.slice (some ⟨bs a,0,none⟩) n (cs a))) br:=by
 have g:=h.noB O;obtain ⟨p,e,hh,hc⟩:=h.top;obtain ⟨d,o,s,f⟩:=tY hh (hc a ha) (hc b hb) (fun z=>Z) (fun z=>Z);generalize (w.setCell ⟨br,a,none⟩ (.slice (some ⟨bs b,0,none⟩) n (cs b))).setCell ⟨br,b,none⟩ (.slice (some ⟨bs a,0,none⟩) n (cs a))=w' at o f ⊢;have lt:∀ i,i<m->aP a b i<m:=fun i hi=>dr ha hb hi
 refine ⟨⟨⟨d,e,o,fun i hi=>?_⟩,fun i hi=>h.cap _ (lt i hi),fun i hi=>(h.row _ (lt i hi)).keep f.1 f.2 (fun k=>h.off _ (lt i hi) (zJ k)) g,fun i j hi t k=>?_,fun i hi=>h.off _ (lt i hi)⟩,f⟩
 ·rw [s i];exact hc _ (lt i hi)
 ·have:=h.inj _ _ (lt i hi) (lt j t) k;have l:aP a b (aP a b i)=aP a b (aP a b j):=by rw [this]
  rw [eZ,eZ] at l;exact l
theorem RV.tightW {L':Nat} (h:RV w b q L) (a:bh L' q):RV w b q L':=by
 rcases h with h | ⟨e,h⟩
 ·have p:q.num.natAbs<4294967296^L':=a.1;obtain ⟨⟨d,v1,f,g,j⟩,⟨k,v2,l,m,o⟩,s⟩:=h;exact .inl ⟨⟨d,v1,f,g.tight p,j⟩,⟨k,v2,l,m.tight a.2,o⟩,s⟩
 ·subst e;obtain ⟨⟨d,v1,f,g,j⟩,⟨k,v2,l,m,o⟩⟩:=h;exact .inr ⟨rfl,⟨d,v1,f,g.tight a.1,j⟩,⟨k,v2,l,m.tight a.1,o⟩⟩
end
structure gR (w:World) (base n i:Nat) (bs cs:Nat->Nat) (R:Nat->Nat->Rat) (L:Nat):Prop where
 low:∀ j,j<i->base<=bs j
 cap:∀ j,j<i->n<=cs j/\cs j<=maxLen
 row:∀ j,j<i->di w (bs j) n (R j) L
 inj:∀ j k,j<i->k<i->bs j=bs k->j=k
section
variable {w w':World} {base n i L:Nat} {bs cs:Nat->Nat} {R:Nat->Nat->Rat}
theorem gR.nil (w:World) (base n:Nat) (bs cs:Nat->Nat) (R:Nat->Nat->Rat) (L:Nat):gR w base n 0 bs cs R L:=⟨fun j h=>O,fun j h=>O,fun j h=>O,fun j k h=>O⟩
theorem gR.keep0 (h:gR w base n i bs cs R L) (g:w.grownBy w' none):gR w' base n i bs cs R L:=⟨h.low,h.cap,fun j a=>(h.row j a).keep0 g,h.inj⟩
theorem gR.keepB (h:gR w base n i bs cs R L) (g:w.grownBy w' r) (k:aO w w') (hb:∀ j,j<i->some (bs j)≠r) (hn:zb w r):gR w' base n i bs cs R L:=⟨h.low,h.cap,fun j a=>(h.row j a).keep g k (hb j a) hn,h.inj⟩
theorem gR.put {g:Nat} (h:gR w base n i bs cs R L) (m:base<=g) (o:n<=c) (p:c<=maxLen) (s:di w g n (R i) L) (f:∀ j,j<i->bs j≠g):gR w base n (i+1) (cT bs i g) (cT cs i c) R L:=by
 refine ⟨fun j d=>?_,fun j d=>?_,fun j d=>?_,fun j k d t e=>?_⟩
 ·unfold cT;split
  ·exact m
  ·exact h.low j O
 ·unfold cT;split
  ·exact ⟨o,p⟩
  ·exact h.cap j O
 ·unfold cT;split
  ·rename_i e;rw [e];exact s
  ·exact h.row j O
 ·unfold cT at e;by_cases l:j=i
  ·rw [if_pos l] at e;by_cases a:k=i
   ·omega
   ·rw [if_neg a] at e;exact absurd e.symm (f k O)
  ·rw [if_neg l] at e;by_cases a:k=i
   ·rw [if_pos a] at e;exact absurd e (f j O)
   ·rw [if_neg a] at e;exact h.inj j k O O e
end
theorem di.mono {L':Nat} (h:di w b n R L) (d:L<=L'):di w b n R L':=by
 obtain ⟨a,e,hb,hc⟩:=h;refine ⟨a,e,hb,fun i hi=>?_⟩;obtain ⟨p,c0,c1⟩:=hc i hi;exact ⟨p,c0,c1.mono d⟩
theorem di.ne_slice {bo:Nat} {x:Option Addr} {l:Nat} (h:di w b n R L) (hn:0<n) (hc:w.cell? ⟨bo,0,none⟩=some (.slice x l c)):b≠bo:=by
 intro e;obtain ⟨p,c0,_⟩:=h.at 0 hn;rw [e,hc] at c0;cases c0
theorem cV.first {t:TypeId} (h:cV (eC n) t w base v (bW bs cs i)) (hi:0<i) {k:Nat} (e:v.ownBlock=some k):∃ a l c,w.cell? ⟨k,0,none⟩=some (.slice a l c):=by
 obtain ⟨p,cap,rfl,_,_,m⟩:=h.1.row;obtain ⟨s,off,f,_,c⟩:=m 0 (by rw [bB];exact hi);rw [f] at e;simp only [Value.ownBlock,zI] at e;rcases h.1.2 with ⟨d,_⟩ | ⟨g,j,o,d,_⟩
 ·rw [f] at d;simp at d
 ·rw [f] at d;simp only [Value.slice.injEq,zI,Addr.mk.injEq] at d;rw [d.1.2.1,Nat.zero_add,e] at c;exact ⟨_,_,_,c⟩
theorem cV.noB {t:TypeId} (h:cV (eC n) t w base v (bW bs cs i)) (hi:0<i):zb w v.ownBlock:=by
 intro k e;obtain ⟨a,l,c,hc⟩:=h.first hi e;exact ⟨_,hc,fun x=>Z⟩
theorem cV.ne_prow {k:Nat} {t:TypeId} {Q:Nat->Rat} (h:cV (eC n) t w base v (bW bs cs i)) (hi:0<i) (d:di w b k Q L) (f:0<k):some b≠v.ownBlock:=by
 intro e;obtain ⟨a,l,c,hc⟩:=h.first hi e.symm;exact d.ne_slice f hc rfl
theorem cV.pmat {m:Nat} {t:TypeId} {R:Nat->Nat->Rat} (h:cV (eC n) t w base v (bW bs cs m)) (p:0<m) (hn:0<n) (d:gR w base n m bs cs R L) :
  ∃ br cap,v=.slice (some ⟨br,0,none⟩) m cap/\base<=br/\m<=cap/\cap<=maxLen/\dh w br m n bs cs R L:=by
 have f:=fun j (hj:j<m)=>h.ne_prow p (d.row j hj) hn
 rcases h.1.2 with ⟨_,s⟩ | ⟨g,cap,a,e,hb,hh,l,u,z,o⟩
 ·rw [bB] at s;omega
 ·rw [bB] at e l o;refine ⟨g,cap,e,hb,l,u,⟨⟨a,t,hh,fun i hi=>?_⟩,d.cap,d.row,d.inj,fun i hi x=>f i hi (by rw [e,x];rfl)⟩⟩;have k:(a.toList.take (m*1))[i]? = ((bW bs cs m).map (eC n))[i]?:=by rw [o]
  rw [List.getElem?_take,if_pos O,Array.getElem?_toList] at k;rw [k];simp [bW,eC,hi]
def cD (R:Nat->Rat) (node:Int) (x:Rat):Nat->Rat:=fun j=>if 0<node/\(j:Int)=node-1 then R j+x else R j
theorem iM (g n cap:Nat) (R:Nat->Rat) (L M:Nat) (node:Int) (a:Nat) (x:Rat) (w:World) (m:di w g n R L) (o:RX w a x M) (C:0<=node) (D:node<=n) (s:n<=cap) (d:cap<=maxLen) (E:2<=L) (F:L+M<=3900000000000) :
  Calls Tryz.prog 45 #[.slice (some ⟨g,0,none⟩) n cap,.int .i64 node,.pointer (some ⟨a,0,none⟩)] w fun e w'=>e=.returned (.tuple #[])/\di w' g n (cD R node x) (L+M+3)/\aK w w' g:=by
 have f:=ab m;have G:=ab o;unfold maxLen at d;clear m o;go_enter Tryz.func45,Tryz.ntmps45
 by_cases h0:0<node
 ·obtain ⟨j,Y⟩:∃ j:Nat,node=(j:Int)+1:=⟨(node-1).toNat,O⟩;subst Y;obtain ⟨p,c0,c1,t⟩:=f.out.at j O;have H:=ab c1;have c2:=t j;have I:(0:Int)<=(j:Int):=O
  have Q:(j:Int)<(n:Int):=O
  have hw:IntKind.i64.wrap ((j:Int)+1-1)=(j:Int):=by
   rw [show (j:Int)+1-1=j by omega];exact IntWalk.i64_in _ ⟨O,O⟩
  have S:IntKind.i64.wrap (j:Int)=(j:Int):=IntWalk.i64_in _ ⟨O,O⟩;clear c1 t;go_wp2_with fail;refine (rAdd_at p a _ _ L M w (H.x E) G F).mono ?_;rintro e w1 ⟨q,rfl,u,l,y3⟩;have h:=f.out.keep0 l;obtain ⟨_,d0,_,z⟩:=h.at j O;have T:=z j;obtain ⟨A,B⟩:=(h.mono (show L<=L+M+3 by omega)).set j O (.inl u);have U:=ab A;have V:=ab ((aK.of_gr l).trans B);clear A B h z u l y3;go_wp2;go_end0
  refine ⟨rfl,U.congr (fun k hk=>?_),V⟩;unfold aN cD;by_cases e:k=j
  ·rw [if_pos e,if_pos ⟨O,O⟩,e]
  ·rw [if_neg e,if_neg O]
 ·have W:node=0:=O
  subst W;have X:Hid (cD R 0 x=R):=by
   show _=_
   funext j
   unfold cD;rw [if_neg O]
  go_wp2;go_end0
  exact ⟨rfl,by rw [X];exact (f.mono O),aK.refl _ _⟩
theorem Ar (v:ByteArray) (K:Nat) (m:Int) (w:World) (d:v.size<=1000000000) (f:3*v.size+8<=K) (a:w.cell? ⟨2,0,none⟩=some (.int .i64 m)) :
  Calls Tryz.prog 40 #[.string v] w fun e w'=>∃ b,e=.returned (.pointer (some ⟨b,0,none⟩))/\w.grownBy w' none/\w.heap.size<=b/\RV w' b (fI v.data.toList) K:=by
 refine (rOfN_at v m w d a).mono ?_;rintro e w' ⟨b,rfl,g,j,h⟩;exact ⟨b,rfl,g,j,RV.mono (L:=3*v.size+8) h f⟩
def iL (p:aA) (node:Nat):Int:=(if p.a=(node:Int) then 1 else 0)-(if p.b=(node:Int) then 1 else 0)
def dw (N:Nat) (ps:List aA) (node i:Nat):Nat->Rat:=fun u=>if N<=u/\u<N+i then (match ps[u-N]? with | some p=>((iL p node:Int):Rat) | none=>0) else 0
theorem oh (N:Nat) (ps:List aA) (node:Nat):dw N ps node 0=fun _=>0:=by
 funext u
 unfold dw;rw [if_neg O]
theorem iC (N:Nat) (ps:List aA) (node i:Nat) (hi:i<ps.length):aN (dw N ps node i) (N+i) ((iL ps[i] node:Int):Rat)=dw N ps node (i+1):=by
 funext u
 unfold aN dw;by_cases e:u=N+i
 ·rw [if_pos e,if_pos O,e,Nat.add_sub_cancel_left,zX hi]
 ·rw [if_neg e];by_cases h:N<=u/\u<N+i
  ·rw [if_pos h,if_pos O]
  ·rw [if_neg h,if_neg O]
def mg (N:Nat) (ps:List aA) (K J O:Nat->Rat) (i:Nat):Nat->Rat :=
 match ps[i]? with
 | none=>fun _=>0
 | some p=>if p.kind=6 then cD (cD (cD (cD (fun _=>0) p.a 1) p.b (-1)) p.c (-(fI p.v.data.toList))) p.d (fI p.v.data.toList)
   else if p.kind=7 then cD (cD (aN (fun _=>0) (N+i) 1) p.c (-(fI p.v.data.toList))) p.d (fI p.v.data.toList)
   else aN (aN (cD (cD (fun _=>0) p.a (K i)) p.b (-(K i))) (N+i) (J i)) (N+ps.length) (O i)
def aY (N:Nat) (ps:List aA) (K J O:Nat->Rat) (j:Nat):Nat->Rat:=if j<N then dw N ps (j+1) ps.length else mg N ps K J O (j-N)
theorem Au (hi:i<ps.length) (h:ps[i].kind=6):aY N ps K J O (N+i)=cD (cD (cD (cD (fun _=>0) ps[i].a 1) ps[i].b (-1)) ps[i].c (-(fI ps[i].v.data.toList))) ps[i].d (fI ps[i].v.data.toList):=by
 unfold aY mg;rw [if_neg (by omega),Nat.add_sub_cancel_left,zX hi];exact if_pos h
theorem Av (hi:i<ps.length) (h:ps[i].kind=7):aY N ps K J O (N+i)=cD (cD (aN (fun _=>0) (N+i) 1) ps[i].c (-(fI ps[i].v.data.toList))) ps[i].d (fI ps[i].v.data.toList):=by
 unfold aY mg;rw [if_neg (by omega),Nat.add_sub_cancel_left,zX hi];exact (if_neg (by omega)).trans (if_pos h)
theorem oW (hi:i<ps.length) (d:¬ ps[i].kind=6) (e:¬ ps[i].kind=7):aY N ps K J O (N+i)=aN (aN (cD (cD (fun _=>0) ps[i].a (K i)) ps[i].b (-(K i))) (N+i) (J i)) (N+ps.length) (O i):=by
 unfold aY mg;rw [if_neg (by omega),Nat.add_sub_cancel_left,zX hi];exact (if_neg d).trans (if_neg e)
namespace Rk
open Nums
section
variable {n:Nat} {W:Nat->Nat->Rat} {s:Nat->Rat} {m:Nat->Nat->Rat} {r c:Nat} {P:Nat->Nat} {perm:List Nat} {b:Nat->Nat}
theorem kA (h:Gj n W s m r c P perm) (hn:0<n) (hb:∀ r,1<=b r) (a:∀ r j,gY (b r) (W r j)) (γ:List Nat) (t:Nat) (e:t<=n):gY (dS n b) (cR W γ (perm.take t).reverse):=by
 have d:=h.pl;have hc:∀ r,1<=n*b r:=fun r=>Nat.mul_pos hn (hb r)
 have:=pW bJ W b hb a n hn γ (perm.take t).reverse (by rw [List.length_reverse,List.length_take];omega);refine bJ.mono _ _ _ ?_ this;rw [lB];unfold dS;rw [<- h.pp _ hc];exact qr _ hc perm t
theorem Bd (h:Gj n W s m r c P perm) (hn:0<n) (hb:∀ r,1<=b r) (a:∀ r j,gY (b r) (W r j)) (γ:List Nat) (i:Nat) (hi:r<=i) (d:i<n):gY (dS n b) (cR W γ (perm.getD i 0 :: (perm.take r).reverse)):=by
 have e:=h.pl;have hc:∀ r,1<=n*b r:=fun r=>Nat.mul_pos hn (hb r)
 have:=pW bJ W b hb a n hn γ (perm.getD i 0 :: (perm.take r).reverse) (by simp only [List.length_cons,List.length_reverse,List.length_take];omega);refine bJ.mono _ _ _ ?_ this;unfold dS;rw [<- h.pp _ hc];exact sD _ hc perm r i hi O
theorem yO (h:Gj n W s m r c P perm) (hn:0<n) (hb:∀ r,1<=b r) (a:∀ q,gY (b q) (s q)) (i:Nat) (d:i<n):gY (dS n b) (s (perm.getD i 0)):=by
 have e:=h.pl;have hc:∀ r,1<=n*b r:=fun r=>Nat.mul_pos hn (hb r)
 refine bJ.mono _ _ _ ?_ (a _);unfold dS;rw [<- h.pp _ hc];refine Nat.le_trans (Nat.le_mul_of_pos_left _ hn) (sC (fun r=>n*b r) hc perm (dp perm i O))
theorem yG {a d:Rat} (hd:d≠0) (h:q*d=a):q=a / d:=(Ds hd h).symm
theorem gj_fit (h:Gj n W s m r c P perm) (S:∀ q,s q≠0) (hb:∀ r,1<=b r) (o:∀ r j,gY (b r) (W r j)) (hw:∀ q,gY (b q) (s q)) {E:Nat} (p:dS n b<4294967296^E) (i k:Nat) (hi:i<n) (hk:k<=n):bh (3*E) (m i k):=by
 have hn:0<n:=O
 obtain ⟨M,l⟩:=eX (dS n b);have d:1<=M:=by
  rw [l];exact lA _ (fun r=>Nat.mul_pos hn (hb r)) _
 have f:M*M*M<4294967296^(3*E):=by
  rw [show 3*E=E+E+E by omega,Nat.pow_add,Nat.pow_add];rw [<- l] at p;exact Nat.mul_lt_mul'' (Nat.mul_lt_mul'' p p) p
 have F:M<=M*M*M:=Nat.le_trans (Nat.le_mul_of_pos_right M d) (Nat.le_mul_of_pos_right _ d);have G:M*M<=M*M*M:=Nat.le_mul_of_pos_right _ d;have T:∀ {x},gY M x->gY (M*M*M) x:=fun D=>bJ.mono _ _ _ F D
 have H:∀ {x y},gY M x->gY M y->gY (M*M*M) (x*y):=fun D hy=>bJ.mono _ _ _ G (bJ.mul _ _ _ _ D hy)
 have W3:∀ {x y z},gY M x->gY M y->gY M z->gY (M*M*M) (x*y*z):=fun D hy hz=>bJ.mul _ _ _ _ (bJ.mul _ _ _ _ D hy) hz
 have a:=yO h hn hb hw i hi;rw [<- l] at a;by_cases U:r<=i
 ·have e:=wL h i U hi k;have g:=Nums.iA (h.dnz r zL) (S (perm.getD i 0));have t:=kA h hn hb o (gP P r) r h.red.rn;have u:=Bd h hn hb o (k :: gP P r) i U hi;rw [<- l] at t u;have A:m i k=cR W (k :: gP P r) (perm.getD i 0 :: (perm.take r).reverse) / (cR W (gP P r) (perm.take r).reverse*s (perm.getD i 0)):=yG g (by rw [Rat.mul_comm];exact e);rw [A];exact mE f (T u) (H t a) g
 ·have B:i<r:=O
  have C:=h.red.rn;have e:=h.led i B;have g:=Nums.iA (h.dnz i O) (S (perm.getD i 0));have t:=kA h hn hb o (gP P i) i O;have u:=kA h hn hb o (gP P (i+1)) (i+1) O;rw [<- l] at t u;by_cases hP:∀ j,j<r->P j≠k
  ·obtain ⟨γ,f1,f2⟩:=Dt h i B k hk hP;have V:=kA h hn hb o (P i :: γ) r C;have X:=kA h hn hb o (k :: γ) r C;rw [<- l] at V X;have e2:m i k*(cR W (gP P i) (perm.take i).reverse*s (perm.getD i 0)*cR W (P i :: γ) (perm.take r).reverse)=cR W (gP P (i+1)) (perm.take (i+1)).reverse*cR W (k :: γ) (perm.take r).reverse:=by
    rw [<- e]
    calc _=(cR W (gP P i) (perm.take i).reverse*s (perm.getD i 0))*(m i k*cR W (P i :: γ) (perm.take r).reverse):=by grind
     _=_:=by rw [f1];grind
   have A:=yG (Nums.iA g f2) e2;rw [A];exact mE f (H u X) (W3 t a V) (Nums.iA g f2)
  ·have:∃ j,j<r/\P j=k:=by
    apply Classical.byContradiction;intro I;exact hP fun j hj e=>I ⟨j,hj,e⟩
   obtain ⟨j,hj,rfl⟩:=this;by_cases Y:i=j
   ·subst Y;have A:=yG g e;rw [A];exact mE f (T u) (H t a) g
   ·rw [h.red.other j hj i hi Y];exact ⟨Nat.pow_pos zD,Nat.lt_of_lt_of_le zD (Nat.le_trans (show 2<=4294967296^1 by decide) (Nat.pow_le_pow_right zD (by
     have:0<E:=by
      rcases zP E with Q | Q
      ·rw [Q,<- l] at p;have:M<1:=p;omega
      ·exact Q
     omega)))⟩
end
end Rk
namespace Rk
open Nums
def lc (n:Nat) (P:Nat->Nat):Nat->Nat
 | 0=>0
 | r+1=>lc n P r+if P r<n then 1 else 0
theorem vF {Q:Nat->Nat} : ∀ r,(∀ j,j<r->P j=Q j)->lc n P r=lc n Q r
 | 0,_=>rfl
 | r+1,h=>by rw [lc,lc,h r O,vF r fun j a=>h j O]
theorem lc_le (n:Nat) (P:Nat->Nat):∀ r,lc n P r<=r
 | 0=>zL
 | r+1=>by
  have:=lc_le n P r;rw [lc];split<;>omega
theorem yg : ∀ r,(∀ j,j<r->P j<n)->lc n P r=r
 | 0,_=>rfl
 | r+1,h=>by rw [lc,if_pos (h r O),yg r fun j hj=>h j O]
theorem zR {j:Nat} (hP:¬ P j<n):∀ r,j<r->lc n P r<r
 | 0,h=>absurd h (Nat.not_lt_zero _)
 | r+1,h=>by
  rw [lc];by_cases e:j=r
  ·rw [<- e,if_neg hP];have:=lc_le n P j;omega
  ·have:=zR hP r O;split<;>omega
def fc (m1:Nat->Nat->Rat) (r c i:Nat):Rat:=m1 i c / m1 r c
def xy (m1:Nat->Nat->Rat) (r c i:Nat):Nat->Nat->Rat:=fun x=>if x<i then dE m1 r (fc m1 r c) x else m1 x
def BP (m1:Nat->Nat->Rat) (r c i k:Nat):Nat->Nat->Rat:=fun x=>if x=i then (fun y=>if y<k then dE m1 r (fc m1 r c) i y else m1 i y) else xy m1 r c i x
theorem vH (m1:Nat->Nat->Rat) (r:Nat) (f:Nat->Rat):dE m1 r f r=m1 r:=by
 funext k
 unfold dE;rw [if_pos rfl]
theorem mxr_zero (m1:Nat->Nat->Rat) (r c:Nat):xy m1 r c 0=m1:=by
 funext x
 unfold xy;rw [if_neg O]
theorem mxr_same {r:Nat} (h:i=r∨m1 i c=0):xy m1 r c (i+1)=xy m1 r c i:=by
 funext x
 unfold xy;by_cases e:x=i
 ·subst e;rw [if_pos O,if_neg O];rcases h with h | h
  ·rw [h];exact vH _ _ _
  ·funext k
   unfold dE;split
   ·rfl
   ·unfold fc;rw [h,Rat.div_def];grind
 ·by_cases a:x<i
  ·rw [if_pos O,if_pos a]
  ·rw [if_neg O,if_neg a]
theorem mxr_r (m1:Nat->Nat->Rat) (r c i:Nat):xy m1 r c i r=m1 r:=by
 unfold xy;split
 ·exact vH _ _ _
 ·rfl
theorem mxr_i (m1:Nat->Nat->Rat) (r c i:Nat):xy m1 r c i i=m1 i:=by
 unfold xy;rw [if_neg O]
theorem mxr_end {r x:Nat} (a:x<n):xy m1 r c n x=dE m1 r (fc m1 r c) x:=by
 unfold xy;rw [if_pos a]
theorem mxk_start {r:Nat} (a:∀ k,k<c->m1 r k=0) (x y:Nat):xy m1 r c i x y=BP m1 r c i c x y:=by
 unfold BP;split
 ·rename_i e;subst e;rw [mxr_i];dsimp only
  by_cases hy:y<c
  ·rw [if_pos hy];unfold dE;split
   ·rfl
   ·rw [a y hy];grind
  ·rw [if_neg hy]
 ·rfl
theorem mxk_end {r:Nat} (x y:Nat) (hy:y<n+1):BP m1 r c i (n+1) x y=xy m1 r c (i+1) x y:=by
 unfold BP;split
 ·rename_i e;subst e;dsimp only
  rw [if_pos hy];unfold xy;rw [if_pos O]
 ·rename_i e;unfold xy;by_cases a:x<i
  ·rw [if_pos a,if_pos O]
  ·rw [if_neg a,if_neg O]
theorem mxk_put (m1:Nat->Nat->Rat) (r c i k:Nat):BP m1 r c i (k+1)=fun x=>if x=i then aN (BP m1 r c i k i) k (dE m1 r (fc m1 r c) i k) else BP m1 r c i k x:=by
 funext x
 by_cases e:x=i
 ·subst e;rw [if_pos rfl];funext y
  unfold aN BP;rw [if_pos rfl,if_pos rfl];try dsimp only
  by_cases a:y=k
  ·rw [if_pos a,if_pos O,a]
  ·rw [if_neg a];by_cases hy:y<k
   ·rw [if_pos hy,if_pos O]
   ·rw [if_neg hy,if_neg O]
 ·rw [if_neg e];unfold BP;rw [if_neg e,if_neg e]
theorem mxk_i (m1:Nat->Nat->Rat) (r c i k:Nat):BP m1 r c i k i k=m1 i k:=by
 unfold BP;rw [if_pos rfl,if_neg O]
theorem mxk_r {r k:Nat} (h:i≠r):BP m1 r c i k r=m1 r:=by
 unfold BP;rw [if_neg (Ne.symm h)];exact mxr_r _ _ _ _
theorem less_at {r k:Nat} (h:i≠r):dE m1 r (fc m1 r c) i k=m1 i k-fc m1 r c i*m1 r k:=by
 unfold dE;rw [if_neg h]
theorem swp_I (m:Nat->Nat->Rat) (r p i:Nat):dN m r p i=m (aP r p i):=by
 unfold dN aP;by_cases d:i=r
 ·by_cases a:i=p
  ·rw [if_pos d,if_pos a];congr 1
   omega
  ·rw [if_pos d,if_neg a,if_pos d]
 ·rw [if_neg d];by_cases a:i=p
  ·rw [if_pos a,if_pos a]
  ·rw [if_neg a,if_neg a,if_neg d]
theorem swp_r (m:Nat->Nat->Rat) (r p:Nat):dN m r p r=m p:=by unfold dN;rw [if_pos rfl]
section
variable {n:Nat} {W:Nat->Nat->Rat} {s:Nat->Rat} {m:Nat->Nat->Rat} {r c p:Nat} {P:Nat->Nat} {perm:List Nat}
theorem gj_col (e:∀ q,s q≠0) (h:Gj n W s m r c P perm) (hc:c<=n) (f:r<=p) (d:p<n) (a:m p c≠0) :
  Gj n W s (dE (dN m r p) r (fc (dN m r p) r c)) (r+1) (c+1) (fun j=>if j=r then c else P j) (dH perm r p) :=
 gj_step e h hc f d a _ fun i hi g=>by
  unfold fc;rw [swp_r];exact Bf _ _ a
theorem col_low (h:Gj n W s m r c P perm) (d:r<=p) (a:p<n):∀ k,k<c->dN m r p r k=0:=fun k e=>by
 rw [swp_r];exact h.red.low p d a k e
theorem lc_col (hc:c<=n):lc n (fun j=>if j=r then c else P j) (r+1)=lc n P r+if c<n then 1 else 0:=by
 rw [lc,if_pos rfl,vF (Q:=P) r fun j a=>if_neg O]
theorem ans_col (h:Gj n W s m r c P perm) (d:r<=p) (a:p<n) (f:Nat->Rat) (y:Nat->Rat):uy n (dE (dN m r p) r f) y↔uy n m y :=
 (CV O _ f y).trans (ans_swp O a m y)
theorem gj_end (h:Gj n W s m r c P perm) (p:¬ (c<=n/\r<n)) :
  (lc n P r<r/\∀ y,¬ uy n m y)∨(lc n P r=r/\r<n/\∃ y z q,uy n m y/\uy n m z/\q<n/\y q≠z q)
   ∨ (lc n P r=n/\r=n/\uy n m (fun i=>m i n / m i i)/\(∀ y,uy n m y->∀ i,i<n->y i=m i n / m i i)/\∀ i,i<n->m i i≠0):=by
 have d:=h.red;have t:=d.rn;have u:=d.cn;by_cases f:∃ j,j<r/\¬ P j<n
 ·obtain ⟨j,f,hP⟩:=f;have:=d.at_ j f;exact .inl ⟨zR hP r f,fun y=>Dy d j f O y⟩
 ·have a:∀ j,j<r->P j<n:=fun j k=>by
   apply Classical.byContradiction;intro g;exact f ⟨j,k,g⟩
  by_cases l:r<n
  ·have hc:c=n+1:=O
   rw [hc] at d;exact .inr (.inl ⟨yg r a,l,end_two d a l⟩)
  ·have e:r=n:=O
   subst e;obtain ⟨x,g⟩:=end_one d a;refine .inr (.inr ⟨yg _ a,rfl,x,g,fun i hi=>?_⟩);have o:=d.lead i hi;rw [Gh d a (r-i) i O hi] at o;exact o
end
end Rk
def mi (n:Nat) (y:Nat->Rat) (R:Nat->Rat):Rat:=Rk.sm (fun u=>R u*y u) n-R n
def dg (y:Nat->Rat) (j:Nat):Rat:=if j=0 then 0 else y (j-1)
theorem yQ : ∀ n,i<n->Rk.sm (fun u=>aN R i q u*y u) n=Rk.sm (fun u=>R u*y u) n+(q-R i)*y i
 | 0,h=>absurd h (Nat.not_lt_zero _)
 | n+1,h=>by
  rw [Rk.sm,Rk.sm];by_cases e:i=n
  ·subst e;have e2:Rk.sm (fun u=>aN R i q u*y u) i=Rk.sm (fun u=>R u*y u) i:=Rk.mV i fun u hu=>by
    unfold aN;rw [if_neg O]
   rw [e2];unfold aN;rw [if_pos rfl];grind
  ·rw [yQ n O];have e2:aN R i q n=R n:=by
    unfold aN;rw [if_neg (fun h=>e h.symm)]
   rw [e2];grind
theorem qD (hi:i<n) (a:R i=0):mi n y (aN R i q)=mi n y R+q*y i:=by
 unfold mi;rw [yQ n hi,a];have e:aN R i q n=R n:=by
  unfold aN;rw [if_neg O]
 rw [e];grind
theorem Cj (a:R n=0):mi n y (aN R n q)=mi n y R-q:=by
 unfold mi;have e:Rk.sm (fun u=>aN R n q u*y u) n=Rk.sm (fun u=>R u*y u) n:=Rk.mV n fun u d=>by
  unfold aN;rw [if_neg O]
 rw [e,a];unfold aN;rw [if_pos rfl];grind
theorem AS (R:Nat->Rat) (node:Nat) (x:Rat):cD R (node:Int) x=if node=0 then R else aN R (node-1) (R (node-1)+x):=by
 funext j
 unfold cD;by_cases h:node=0
 ·rw [if_pos h,if_neg O]
 ·rw [if_neg h];unfold aN;by_cases e:j=node-1
  ·rw [if_pos ⟨O,O⟩,if_pos e,e]
  ·rw [if_neg O,if_neg e]
theorem gM {node:Nat} {x:Rat} (h:node<=n):mi n y (cD R (node:Int) x)=mi n y R+x*dg y node:=by
 rw [AS];unfold dg;by_cases a:node=0
 ·rw [if_pos a,if_pos a];grind
 ·rw [if_neg a,if_neg a];unfold mi;rw [yQ n O];have e:aN R (node-1) (R (node-1)+x) n=R n:=by
   unfold aN;rw [if_neg O]
  rw [e];grind
theorem lD (n:Nat) (y:Nat->Rat):mi n y (fun _=>0)=0:=by
 unfold mi;rw [Rk.o9 n fun k _=>by grind];show (0:Rat)-0=0
 grind
theorem pK {node:Int} {x:Rat} {u:Nat} (h:node<=N) (a:N<=u):cD R node x u=R u:=by
 unfold cD;rw [if_neg O]
def dB (ps:List aA) (i:Nat):Rat:=match ps[i]? with | some p=>bO p.kind p.q | none=>0
def dR (ps:List aA) (i:Nat):Rat:=match ps[i]? with | some p=>bP p.kind p.q | none=>0
def d6 (ps:List aA) (i:Nat):Rat:=match ps[i]? with | some p=>bQ p.kind p.q | none=>0
theorem Dg (p:aA) (r:Nat):((iL p r:Int):Rat)=ks p r:=by
 unfold iL ks;split<;>split<;>decide +kernel
theorem nJ (N:Nat) (ps:List aA) (r:Nat) (y:Nat->Rat):∀ i,i<=ps.length->mi (N+ps.length) y (dw N ps r i)=jy (fun x=>iJ ps x r*y (N+x)) i
 | 0,_=>by rw [oh];exact lD _ _
 | i+1,h=>by
  rw [<- iC N ps r i O,qD O (by unfold dw;rw [if_neg O]),nJ N ps r y i O,lE,Dg];unfold iJ;rw [zX (show i<ps.length by omega)]
theorem sJ (t:cH (N+1) ps) (y:Nat->Rat) (i:Nat) (hi:i<ps.length) :
  mi (N+ps.length) y (aY N ps (dB ps) (dR ps) (d6 ps) (N+i))=bO ps[i].kind ps[i].q*(dg y ps[i].a.toNat-dg y ps[i].b.toNat)+cA ps[i].kind ps[i].q*(dg y ps[i].c.toNat-dg y ps[i].d.toNat)+bP ps[i].kind ps[i].q*y (N+i)-bQ ps[i].kind ps[i].q:=by
 obtain ⟨A,B,C,D,h,j,k,l,E,lb,lc,F⟩:=t.ends _ (List.getElem_mem hi);obtain ⟨p,e⟩:=eX (ps[i]);rw [<- e] at h j k l ⊢;have m:p.q=fI p.v.data.toList:=rfl;by_cases f:p.kind=6
 ·rw [Au hi (by rw [<- e];exact f),<- e,<- m,h,j,k,l,gM O,gM O,gM O,gM O,lD,f];simp only [Int.toNat_natCast,bO,cA,bP,bQ];grind
 ·by_cases g:p.kind=7
  ·rw [Av hi (by rw [<- e];exact g),<- e,<- m,k,l,gM O,gM O,qD O rfl,lD,g];simp only [Int.toNat_natCast,bO,cA,bP,bQ];grind
  ·have o:∀ u,N<=u->cD (cD (fun _=>0) p.a (dB ps i)) p.b (-(dB ps i)) u=0:=fun u s=>by
    rw [pK (N:=N) O s,pK (N:=N) O s]
   have x:aN (cD (cD (fun _=>0) p.a (dB ps i)) p.b (-(dB ps i))) (N+i) (dR ps i) (N+ps.length)=0:=by
    unfold aN;rw [if_neg O];exact o _ O
   rw [oW hi (by rw [<- e];exact f) (by rw [<- e];exact g),<- e,Cj x,qD O (o _ O),h,j,gM O,gM O,lD];unfold dB dR d6;rw [zX hi,<- e];have z:cA p.kind p.q=0:=by unfold cA;rw [if_neg f,if_neg g]
   rw [z];simp only [Int.toNat_natCast];grind
theorem Ax (g:cH (N+1) ps) (y:Nat->Rat):Rk.uy (N+ps.length) (aY N ps (dB ps) (dR ps) (d6 ps)) y↔bd (N+1) ps (dg y) (fun i=>y (N+i)):=by
 have e:∀ j,j<N+ps.length->(Rk.sm (fun k=>aY N ps (dB ps) (dR ps) (d6 ps) j k*y k) (N+ps.length)=aY N ps (dB ps) (dR ps) (d6 ps) j (N+ps.length)↔mi (N+ps.length) y (aY N ps (dB ps) (dR ps) (d6 ps) j)=0):=fun j _=>by
  unfold mi;constructor
  ·intro h;rw [h];grind
  ·intro h;grind
 have a:∀ j,j<N->aY N ps (dB ps) (dR ps) (d6 ps) j=dw N ps (j+1) ps.length:=fun j hj=>by
  unfold aY;rw [if_pos hj]
 constructor
 ·intro h;refine ⟨rfl,fun r l m=>?_,fun i hi=>?_⟩
  ·have d:=(e (r-1) O).1 (h (r-1) O);rw [a (r-1) O,show r-1+1=r by omega,nJ N ps r y _ zL] at d;exact d
  ·have d:=(e (N+i) O).1 (h (N+i) O);rw [sJ g y i hi] at d;grind
 ·intro h j hj;refine (e j hj).2 ?_;by_cases f:j<N
  ·rw [a j f,nJ N ps (j+1) y _ zL];exact h.node (j+1) O O
  ·obtain ⟨i,rfl⟩:∃ i,j=N+i:=⟨j-N,O⟩;rw [sJ g y i O];have:=h.part i O;grind
def nj (w:World) (b:Nat) (T:TypeId) (x y z:Value):Prop:=w.heap[b]? = some (Obj.cells #[x,y,z] T (0,0))
theorem nj.cells {T:TypeId} {x y z:Value} (h:nj w b T x y z):w.cell? ⟨b,0,none⟩=some x/\w.cell? ⟨b,1,none⟩=some y/\w.cell? ⟨b,2,none⟩=some z/\w.frozen? ⟨b,0,none⟩=false/\w.frozen? ⟨b,1,none⟩=false/\w.frozen? ⟨b,2,none⟩=false:=by
 unfold nj at h;exact ⟨by simp [World.cell?,h],by simp [World.cell?,h],by simp [World.cell?,h],by simp [World.frozen?,h],by simp [World.frozen?,h],by simp [World.frozen?,h]⟩
theorem nj.setN {T:TypeId} {x y z:Value} (h:nj w b T x y z) (f:(∃ p,x=.pointer (some p))∨x=.pointer none) (hy:(∃ p,y=.pointer (some p))∨y=.pointer none) (g:(∃ p,z=.pointer (some p))∨z=.pointer none) (u v s:Value) :
  nj (((w.setCell ⟨b,0,none⟩ u).setCell ⟨b,1,none⟩ v).setCell ⟨b,2,none⟩ s) b T u v s/\aK w (((w.setCell ⟨b,0,none⟩ u).setCell ⟨b,1,none⟩ v).setCell ⟨b,2,none⟩ s) b:=by
 have a:=heap_setCell_same w b 0 _ T u h;have d:=heap_setCell_same _ b 1 _ T v a;have j:=heap_setCell_same _ b 2 _ T s d;refine ⟨j,((aK.set h (fun k e=>?_) u).trans (aK.set a (fun k e=>?_) v)).trans (aK.set d (fun k e=>?_) s)⟩
 ·rcases f with ⟨p,rfl⟩ | rfl<;>simp at e
 ·rcases hy with ⟨p,rfl⟩ | rfl<;>simp at e
 ·rcases g with ⟨p,rfl⟩ | rfl<;>simp at e
def TieV (w:World) (q:aA) (M:Nat) (v:Value):Prop:=∃ a b c,v=.agg #[.pointer (some ⟨a,0,none⟩),.pointer (some ⟨b,0,none⟩),.pointer (some ⟨c,0,none⟩)]/\RV w a (bO q.kind q.q) M/\RV w b (bP q.kind q.q) M/\RV w c (bQ q.kind q.q) M
theorem yd {q:aA} (h:q.kind=1):bO q.kind q.q=1/\bP q.kind q.q = -(fI q.v.data.toList)/\bQ q.kind q.q=0:=by rw [h];exact ⟨by simp [bO],by simp [bP,aA.q,Rat.sub_eq_add_neg,Rat.zero_add],by simp [bQ]⟩
theorem ye {q:aA} (h:q.kind=4):bO q.kind q.q=1/\bP q.kind q.q=0/\bQ q.kind q.q=fI q.v.data.toList:=by rw [h];exact ⟨by simp [bO],by simp [bP],by simp [bQ,aA.q]⟩
theorem yf {q:aA} (h:q.kind=5):bO q.kind q.q=0/\bP q.kind q.q=1/\bQ q.kind q.q=fI q.v.data.toList:=by rw [h];exact ⟨by simp [bO],by simp [bP],by simp [bQ,aA.q]⟩
theorem Cm (q:aA) (M:Nat) (ml:Int) (w:World) (h1:q.v.size<=1000000000) (h2:3*q.v.size+10<=M) (hM:M<=100000000000) (hk:w.cell? ⟨2,0,none⟩=some (.int .i64 ml)) :
  Calls Tryz.prog 30 #[.agg #[.int .i64 q.kind,.int .i64 q.a,.int .i64 q.b,.int .i64 q.c,.int .i64 q.d,.string q.v]] w fun e w'=>∃ (v:Value) (ok:Bool),e=.returned (.tuple #[v,.bool ok])/\w.grownBy w' none/\(ok=true↔q.kind=1∨q.kind=4∨q.kind=5)/\(ok=true->TieV w' q M v)/\(ok=false->v=.agg #[.pointer none,.pointer none,.pointer none]):=by
 have hl:=ab hk;obtain ⟨Y,he⟩:=eX w.heap.size;obtain ⟨gt,U⟩:=eX (w.heap.size+1);obtain ⟨W,hW⟩:=eX ((w.alloc (Obj.cells #[.int .i64 q.kind,.int .i64 q.a,.int .i64 q.b,.int .i64 q.c,.int .i64 q.d,.string q.v] 55)).alloc (Obj.cells #[.pointer none,.pointer none,.pointer none] 68));have GW:Hid (w.grownBy W none):=by rw [hW];exact ag (ag (ae _ _) _) _
 have X:Hid (w.heap.size<=gt):=by show _<=_;omega
 have hf:Hid (Y≠gt):=by show _≠_;omega
 have t:Hid (gt<W.heap.size):=by show _<_;rw [hW,U];simp
 have ML:Hid (∀ wx,W.grownBy wx none->wx.cell? ⟨2,0,none⟩=some (.int .i64 ml)):=fun wx hg=>(aa GW hg).cell hl Z
 have F:Hid (∀ wx,W.grownBy wx none->wx.cell? ⟨Y,5,none⟩=some (.string q.v)):=by
  intro wx hg;rw [hW] at hg;rw [he];exact hg.cell zG Z
 have S0:Hid (∀ wx,W.grownBy wx none->wx.cell? ⟨Y,0,none⟩=some (.int .i64 q.kind)):=by
  intro wx hg;rw [hW] at hg;rw [he];exact hg.cell zG Z
 have TB:Hid (∀ wx,W.grownBy wx none->nj wx gt 68 (.pointer none) (.pointer none) (.pointer none)):=by
  intro wx hg;have hh:=heap_alloc_new (w.alloc (Obj.cells #[.int .i64 q.kind,.int .i64 q.a,.int .i64 q.b,.int .i64 q.c,.int .i64 q.d,.string q.v] 55)) (Obj.cells #[.pointer none,.pointer none,.pointer none] 68);have e:(w.alloc (Obj.cells #[.int .i64 q.kind,.int .i64 q.a,.int .i64 q.b,.int .i64 q.c,.int .i64 q.d,.string q.v] 55)).heap.size=gt:=by rw [U];simp
  rw [e] at hh;unfold nj;rw [hg.block gt (by rw [hW,U];simp) Z,hW];exact hh
 have hj:Hid (∀ wx,wx.cell? ⟨2,0,none⟩=some (.int .i64 ml)->Calls Tryz.prog 40 #[.string q.v] wx fun e w'=>∃ b,e=.returned (.pointer (some ⟨b,0,none⟩))/\wx.grownBy w' none/\wx.heap.size<=b/\RV w' b (fI q.v.data.toList) (M-2)):=fun wx h=>Ar q.v (M-2) ml wx h1 O h
 go_enter Tryz.func30,Tryz.ntmps30
 go_upto_region 1 with fail;rw [<- U,<- he,<- hW];have GG:W.grownBy W none:=ae _ _;have s0:=S0.out W GG;have s5:=F.out W GG;clear hW U he GG;by_cases k1:q.kind=1
 ·have b1:(q.kind==1)=true:=by simp [k1]
  have K1:=ab k1;clear k1;go_upto_region 3 with fail;refine hd (fun w'=>w'.cell? ⟨Y,5,none⟩=some (.string q.v)) (fun hHeld=>?_);refine tk 7 [(1,9,.pointer (some ⟨Y,5,none⟩)),(2,10,.string q.v)] ?_;try simp only [zU]
  have GG:W.grownBy W.drew none:=aC;refine cX 6 0 (fun K f=>?_);simp only [ax,q4,q5,q6,q7];go_simp
  go_at_call 28
  refine (fB 1 _ O O).mono ?_;rintro e m ⟨B,rfl,o,g,p⟩;have u:Hid (W.heap.size<=B):=Nat.le_trans (gx GG).size p;have j:=aa (gx GG) g;have k0:=F.out m j;have GG:=j;have k:Hid (RV m B (1:Rat) 4):=.inl o;clear o g p j;go_wp2_with fail;refine bk f (fun hHeld=>?_);clear f K;try simp only [zU]
  refine cX 5 3 (fun K f=>?_);simp only [ax,q4,q5,q6,q7];go_simp
  go_at_call 40
  refine (hj _ (ML _ (gx GG))).mono ?_;rintro e m ⟨bo,rfl,g,p,o⟩;have hm:Hid (W.heap.size<=bo):=Nat.le_trans (gx GG).size p;have j:=aa (gx GG) g;have k0:=F.out m j;have k:=ab (k.keep0 (aa (gx (ae _ _)) g));have GG:=j;have G:=ab o;clear o g p j;go_wp2_with fail;refine bk f (fun hHeld=>?_);clear f K;try simp only [zU]
  refine cX 4 4 (fun K f=>?_);simp only [ax,q4,q5,q6,q7];go_simp
  go_at_call 47
  refine (mP bo _ (M-2) _ ((G.x O).keep0 (gx (ae _ _))) O).mono ?_;rintro e m ⟨C,rfl,o,g,p⟩;have z:Hid (W.heap.size<=C):=Nat.le_trans (gx GG).size p;have j:=aa (gx GG) g;have k0:=F.out m j;have k:=ab (k.keep0 (aa (gx (ae _ _)) g));have G:=ab (G.keep0 (aa (gx (ae _ _)) g));have GG:=j;have s:Hid (RV m C (-(fI q.v.data.toList)) (M-2+2)):=.inl o;clear o g p j;go_wp2_with fail;refine bk f (fun hHeld=>?_);clear f K;try simp only [zU]
  refine cX 3 5 (fun K f=>?_);simp only [ax,q4,q5,q6,q7];go_simp
  go_at_call 28
  refine (fB 0 _ O O).mono ?_;rintro e m ⟨E,rfl,o,g,p⟩;have A:Hid (W.heap.size<=E):=Nat.le_trans (gx GG).size p;have j:=aa (gx GG) g;have k0:=F.out m j;have k:=ab (k.keep0 (aa (gx (ae _ _)) g));have G:=ab (G.keep0 (aa (gx (ae _ _)) g));have s:=ab (s.keep0 (aa (gx (ae _ _)) g));have GG:=j;have H:Hid (RV m E (0:Rat) 4):=.inl o;clear o g p j;go_wp2_with fail;refine bk f (fun hHeld=>?_);clear f K;try simp only [zU]
  refine tk 2 [(6,14,.agg #[.pointer (some ⟨B,0,none⟩),.pointer (some ⟨C,0,none⟩),.pointer (some ⟨E,0,none⟩)])] ?_;try simp only [zU]
  have D:=TB.out m GG;obtain ⟨c0,c1,c2,f0,f1,f2⟩:=nj.cells D;obtain ⟨V,l⟩:=nj.setN D (.inr rfl) (.inr rfl) (.inr rfl) (.pointer (some ⟨B,0,none⟩)) (.pointer (some ⟨C,0,none⟩)) (.pointer (some ⟨E,0,none⟩));have I:=l.1.cell k0 (fun e=>hf (zJ e));refine cX 1 7 (fun K f=>?_);simp only [ax,q4,q5,q6,q7];go_simp
  refine bk f (fun hHeld=>?_) (hS:=I);clear f K;try simp only [zU]
  refine cX 0 8 (fun K f=>?_);simp only [ax,q4,q5,q6,q7];go_simp
  refine bk f (fun hHeld=>?_) (hS:=I);clear f K;try simp only [zU]
  refine wpAnyH_done zK ?_ _;have HG:=ab (fZ (aa GW GG) l.1 (fun r e=>by cases e;exact X));have Q:=ab (k.keepW l.1 l.2 (fun e=>by have:=zJ e;have:=u.out;have:=t.out;omega));have S:=ab (s.keepW l.1 l.2 (fun e=>by have:=zJ e;have:=z.out;have:=t.out;omega));have T:=ab (H.keepW l.1 l.2 (fun e=>by have:=zJ e;have:=A.out;have:=t.out;omega));obtain ⟨d0,d1,d2,_⟩:=nj.cells V;clear D c0 c1 c2 f0 f1 f2 V l GG I k0;go_wp2;refine bodyPost_ret (v:=.tuple #[.agg #[.pointer (some ⟨B,0,none⟩),.pointer (some ⟨C,0,none⟩),.pointer (some ⟨E,0,none⟩)],.bool true]) (by simp [results,Tryz.results30,go_sem,d0,d1,d2]) rfl ?_;exact ⟨_,_,rfl,HG,by simp [K1.out],fun _=>⟨_,_,_,rfl,by rw [(yd K1).1];exact Q.mono O,by rw [(yd K1).2.1];exact S.mono O,by rw [(yd K1).2.2];exact T.mono O⟩,fun h=>by cases h⟩
 ·have b1:(q.kind==1)=false:=by simp [k1]
  have N1:=ab k1;clear k1;by_cases k4:q.kind=4
  ·have b4:(q.kind==4)=true:=by simp [k4]
   have K4:=ab k4;clear k4;go_upto_region 5 with fail;refine hd (fun w'=>w'.cell? ⟨Y,5,none⟩=some (.string q.v)) (fun hHeld=>?_);refine tk 6 [(2,19,.pointer (some ⟨Y,5,none⟩)),(3,20,.string q.v)] ?_;try simp only [zU]
   have GG:W.grownBy W.drew none:=aC;refine cX 5 0 (fun K f=>?_);simp only [ax,q4,q5,q6,q7];go_simp
   go_at_call 28
   refine (fB 1 _ O O).mono ?_;rintro e m ⟨B,rfl,o,g,p⟩;have u:Hid (W.heap.size<=B):=Nat.le_trans (gx GG).size p;have j:=aa (gx GG) g;have k0:=F.out m j;have GG:=j;have k:Hid (RV m B (1:Rat) 4):=.inl o;clear o g p j;go_wp2_with fail;refine bk f (fun hHeld=>?_);clear f K;try simp only [zU]
   refine cX 4 1 (fun K f=>?_);simp only [ax,q4,q5,q6,q7];go_simp
   go_at_call 28
   refine (fB 0 _ O O).mono ?_;rintro e m ⟨C,rfl,o,g,p⟩;have z:Hid (W.heap.size<=C):=Nat.le_trans (gx GG).size p;have j:=aa (gx GG) g;have k0:=F.out m j;have k:=ab (k.keep0 (aa (gx (ae _ _)) g));have GG:=j;have s:Hid (RV m C (0:Rat) 4):=.inl o;clear o g p j;go_wp2_with fail;refine bk f (fun hHeld=>?_);clear f K;try simp only [zU]
   refine cX 3 4 (fun K f=>?_);simp only [ax,q4,q5,q6,q7];go_simp
   go_at_call 40
   refine (hj _ (ML _ (gx GG))).mono ?_;rintro e m ⟨E,rfl,g,p,o⟩;have A:Hid (W.heap.size<=E):=Nat.le_trans (gx GG).size p;have j:=aa (gx GG) g;have k0:=F.out m j;have k:=ab (k.keep0 (aa (gx (ae _ _)) g));have s:=ab (s.keep0 (aa (gx (ae _ _)) g));have GG:=j;have H:=ab o;clear o g p j;go_wp2_with fail;refine bk f (fun hHeld=>?_);clear f K;try simp only [zU]
   refine tk 2 [(5,22,.agg #[.pointer (some ⟨B,0,none⟩),.pointer (some ⟨C,0,none⟩),.pointer (some ⟨E,0,none⟩)])] ?_;try simp only [zU]
   have D:=TB.out m GG;obtain ⟨c0,c1,c2,f0,f1,f2⟩:=nj.cells D;obtain ⟨V,l⟩:=nj.setN D (.inr rfl) (.inr rfl) (.inr rfl) (.pointer (some ⟨B,0,none⟩)) (.pointer (some ⟨C,0,none⟩)) (.pointer (some ⟨E,0,none⟩));have I:=l.1.cell k0 (fun e=>hf (zJ e));refine cX 1 6 (fun K f=>?_);simp only [ax,q4,q5,q6,q7];go_simp
   refine bk f (fun hHeld=>?_) (hS:=I);clear f K;try simp only [zU]
   refine cX 0 7 (fun K f=>?_);simp only [ax,q4,q5,q6,q7];go_simp
   refine bk f (fun hHeld=>?_) (hS:=I);clear f K;try simp only [zU]
   refine wpAnyH_done zK ?_ _;have HG:=ab (fZ (aa GW GG) l.1 (fun r e=>by cases e;exact X));have Q:=ab (k.keepW l.1 l.2 (fun e=>by have:=zJ e;have:=u.out;have:=t.out;omega));have S:=ab (s.keepW l.1 l.2 (fun e=>by have:=zJ e;have:=z.out;have:=t.out;omega));have T:=ab (H.keepW l.1 l.2 (fun e=>by have:=zJ e;have:=A.out;have:=t.out;omega));obtain ⟨d0,d1,d2,_⟩:=nj.cells V;clear D c0 c1 c2 f0 f1 f2 V l GG I k0;go_wp2;refine bodyPost_ret (v:=.tuple #[.agg #[.pointer (some ⟨B,0,none⟩),.pointer (some ⟨C,0,none⟩),.pointer (some ⟨E,0,none⟩)],.bool true]) (by simp [results,Tryz.results30,go_sem,d0,d1,d2]) rfl ?_;exact ⟨_,_,rfl,HG,by simp [K4.out],fun _=>⟨_,_,_,rfl,by rw [(ye K4).1];exact Q.mono O,by rw [(ye K4).2.1];exact S.mono O,by rw [(ye K4).2.2];exact T.mono O⟩,fun h=>by cases h⟩
  ·have b4:(q.kind==4)=false:=by simp [k4]
   have N4:=ab k4;clear k4;by_cases k5:q.kind=5
   ·have b5:(q.kind==5)=true:=by simp [k5]
    have K5:=ab k5;clear k5;go_upto_region 7 with fail;refine hd (fun w'=>w'.cell? ⟨Y,5,none⟩=some (.string q.v)) (fun hHeld=>?_);refine tk 6 [(2,27,.pointer (some ⟨Y,5,none⟩)),(3,28,.string q.v)] ?_;try simp only [zU]
    have GG:W.grownBy W.drew none:=aC;refine cX 5 0 (fun K f=>?_);simp only [ax,q4,q5,q6,q7];go_simp
    go_at_call 28
    refine (fB 0 _ O O).mono ?_;rintro e m ⟨B,rfl,o,g,p⟩;have u:Hid (W.heap.size<=B):=Nat.le_trans (gx GG).size p;have j:=aa (gx GG) g;have k0:=F.out m j;have GG:=j;have k:Hid (RV m B (0:Rat) 4):=.inl o;clear o g p j;go_wp2_with fail;refine bk f (fun hHeld=>?_);clear f K;try simp only [zU]
    refine cX 4 1 (fun K f=>?_);simp only [ax,q4,q5,q6,q7];go_simp
    go_at_call 28
    refine (fB 1 _ O O).mono ?_;rintro e m ⟨C,rfl,o,g,p⟩;have z:Hid (W.heap.size<=C):=Nat.le_trans (gx GG).size p;have j:=aa (gx GG) g;have k0:=F.out m j;have k:=ab (k.keep0 (aa (gx (ae _ _)) g));have GG:=j;have s:Hid (RV m C (1:Rat) 4):=.inl o;clear o g p j;go_wp2_with fail;refine bk f (fun hHeld=>?_);clear f K;try simp only [zU]
    refine cX 3 4 (fun K f=>?_);simp only [ax,q4,q5,q6,q7];go_simp
    go_at_call 40
    refine (hj _ (ML _ (gx GG))).mono ?_;rintro e m ⟨E,rfl,g,p,o⟩;have A:Hid (W.heap.size<=E):=Nat.le_trans (gx GG).size p;have j:=aa (gx GG) g;have k0:=F.out m j;have k:=ab (k.keep0 (aa (gx (ae _ _)) g));have s:=ab (s.keep0 (aa (gx (ae _ _)) g));have GG:=j;have H:=ab o;clear o g p j;go_wp2_with fail;refine bk f (fun hHeld=>?_);clear f K;try simp only [zU]
    refine tk 2 [(5,30,.agg #[.pointer (some ⟨B,0,none⟩),.pointer (some ⟨C,0,none⟩),.pointer (some ⟨E,0,none⟩)])] ?_;try simp only [zU]
    have D:=TB.out m GG;obtain ⟨c0,c1,c2,f0,f1,f2⟩:=nj.cells D;obtain ⟨V,l⟩:=nj.setN D (.inr rfl) (.inr rfl) (.inr rfl) (.pointer (some ⟨B,0,none⟩)) (.pointer (some ⟨C,0,none⟩)) (.pointer (some ⟨E,0,none⟩));have I:=l.1.cell k0 (fun e=>hf (zJ e));refine cX 1 6 (fun K f=>?_);simp only [ax,q4,q5,q6,q7];go_simp
    refine bk f (fun hHeld=>?_) (hS:=I);clear f K;try simp only [zU]
    refine cX 0 7 (fun K f=>?_);simp only [ax,q4,q5,q6,q7];go_simp
    refine bk f (fun hHeld=>?_) (hS:=I);clear f K;try simp only [zU]
    refine wpAnyH_done zK ?_ _;have HG:=ab (fZ (aa GW GG) l.1 (fun r e=>by cases e;exact X));have Q:=ab (k.keepW l.1 l.2 (fun e=>by have:=zJ e;have:=u.out;have:=t.out;omega));have S:=ab (s.keepW l.1 l.2 (fun e=>by have:=zJ e;have:=z.out;have:=t.out;omega));have T:=ab (H.keepW l.1 l.2 (fun e=>by have:=zJ e;have:=A.out;have:=t.out;omega));obtain ⟨d0,d1,d2,_⟩:=nj.cells V;clear D c0 c1 c2 f0 f1 f2 V l GG I k0;go_wp2;refine bodyPost_ret (v:=.tuple #[.agg #[.pointer (some ⟨B,0,none⟩),.pointer (some ⟨C,0,none⟩),.pointer (some ⟨E,0,none⟩)],.bool true]) (by simp [results,Tryz.results30,go_sem,d0,d1,d2]) rfl ?_;exact ⟨_,_,rfl,HG,by simp [K5.out],fun _=>⟨_,_,_,rfl,by rw [(yf K5).1];exact Q.mono O,by rw [(yf K5).2.1];exact S.mono O,by rw [(yf K5).2.2];exact T.mono O⟩,fun h=>by cases h⟩
   ·have b5:(q.kind==5)=false:=by simp [k5]
    have N5:=ab k5;clear k5;have D:=TB.out _ (ae W _);obtain ⟨c0,c1,c2,f0,f1,f2⟩:=nj.cells D;obtain ⟨V,l⟩:=nj.setN D (.inr rfl) (.inr rfl) (.inr rfl) (.pointer none) (.pointer none) (.pointer none);have HG:=ab (fZ GW l.1 (fun r e=>by cases e;exact X));obtain ⟨d0,d1,d2,_⟩:=nj.cells V;clear D V l;go_wp2;refine bodyPost_ret (v:=.tuple #[.agg #[.pointer none,.pointer none,.pointer none],.bool false]) (by simp [results,Tryz.results30,go_sem,d0,d1,d2]) rfl ?_;exact ⟨_,_,rfl,HG,by simp [N1.out,N4.out,N5.out],fun h=>(by cases h),fun _=>rfl⟩
theorem mU (b:Nat) (q:Rat) (L:Nat) (w:World) (h:RV w b q L):Calls Tryz.prog 31 #[.pointer (some ⟨b,0,none⟩)] w fun e w'=>e=.returned (.int .i64 (ja q.num))/\w'=w:=by
 rcases h with h | ⟨rfl,h⟩
 ·exact mh b q.num L w h.1
 ·exact mh b 0 L w h.1
theorem mS : ja q.num=0↔q=0:=by
 unfold ja;constructor
 ·intro h;apply Rat.num_eq_zero.1;split at h
  ·cases h
  ·split at h
   ·cases h
   ·omega
 ·intro h;rw [h];rfl
def pfV (b:Nat):Value:=.pointer (some ⟨b,0,none⟩)
abbrev pI (w:World) (base:Nat) (v:Value) (xs:List Nat):Prop:=cV pfV 65 w base v xs
theorem pI.noB {xs:List Nat} (h:pI w base v xs) (f:0<xs.length):zb w v.ownBlock:=by
 intro k a;rcases h.1.2 with ⟨rfl,j⟩ | ⟨g,cap,d,rfl,hb,hh,j,m,o,l⟩
 ·simp [Value.ownBlock] at a
 ·simp only [Value.ownBlock,zI] at a;subst a;have e:(d.toList.take (xs.length*1))[0]? = (xs.map pfV)[0]?:=by rw [l]
  rw [List.getElem?_take,if_pos O,List.getElem?_map,zX f,Array.getElem?_toList] at e;refine ⟨pfV xs[0],?_,fun x=>by simp [pfV]⟩;simp only [World.cell?,hh];simpa using e
theorem pI.low {base':Nat} {xs:List Nat} (h:pI w base v xs) (hb:base'<=base):pI w base' v xs:=by
 refine ⟨⟨h.1.1,?_⟩,h.2⟩;rcases h.1.2 with d | ⟨g,cap,a,e,f,j⟩
 ·exact .inl d
 ·exact .inr ⟨g,cap,a,e,Nat.le_trans hb f,j⟩
def RkO (W0:World) (n:Nat) (A:Nat->Nat->Rat) (s:Nat->Rat) (m0:Nat->Nat->Rat) (br L:Nat) (v4 v5 v7 v8:Value) (wr:World):Prop :=
 ∃ (r c a:Nat) (P:Nat->Nat) (perm:List Nat) (m:Nat->Nat->Rat) (bs cs:Nat->Nat),v4=.int .i64 a/\v5=.int .i64 r/\v7=.int .i64 r/\v8=.int .i64 c/\a=Rk.lc n P r/\Rk.Gj n A s m r c P perm/\(∀ y,Rk.uy n m y↔Rk.uy n m0 y)
  /\ dh wr br n (n+1) bs cs m L/\W0.grownBy wr none/\∀ i,i<n->W0.heap.size<=bs i
def RkL (W1:World) (m:Nat->Nat->Rat) (n r c:Nat) (v:Value) (wr:World):Prop:=∃ p,r<=p/\p<=n/\v=.int .i64 (p:Nat)/\(∀ i,r<=i->i<p->m i c=0)/\wr=W1
def RkI (W0:World) (n br L:Nat) (bs cs:Nat->Nat) (m1:Nat->Nat->Rat) (r c:Nat) (v:Value) (wr:World):Prop:=∃ i,i<=n/\v=.int .i64 (i:Nat)/\dh wr br n (n+1) bs cs (Rk.xy m1 r c i) L/\W0.grownBy wr none
def RkK (W0:World) (n br L:Nat) (bs cs:Nat->Nat) (m1:Nat->Nat->Rat) (r c i fq:Nat) (v:Value) (wr:World):Prop :=
 ∃ k,c<=k/\k<=n+1/\v=.int .i64 (k:Nat)/\dh wr br n (n+1) bs cs (Rk.BP m1 r c i k) L/\RV wr fq (Rk.fc m1 r c i) (L+L+2)/\W0.grownBy wr none
def RkX (W2:World) (n:Nat) (m:Nat->Nat->Rat) (L:Nat) (v v13:Value) (wr:World):Prop :=
 ∃ (i:Nat) (xs:List Nat),i<=n/\v13=.int .i64 i/\xs.length=i/\pI wr W2.heap.size v xs/\(∀ j (h:j<xs.length),RV wr xs[j] (m j n / m j j) (L+L+2))/\W2.grownBy wr none
def RkE (W0:World) (n:Nat) (m0:Nat->Nat->Rat) (L:Nat) (e:Ending) (w':World):Prop :=
 ∃ (a b:Nat) (v:Value),e=.returned (.tuple #[.int .i64 a,.int .i64 b,v])/\W0.grownBy w' none
  /\ ((a<b/\∀ y,¬ Rk.uy n m0 y)∨(a=b/\a<n/\∃ y z q,Rk.uy n m0 y/\Rk.uy n m0 z/\q<n/\y q≠z q)
   ∨ (a=n/\b=n/\∃ (y:Nat->Rat) (xs:List Nat),Rk.uy n m0 y/\(∀ z,Rk.uy n m0 z->∀ i,i<n->z i=y i)/\xs.length=n/\pI w' W0.heap.size v xs/\∀ j (h:j<xs.length),RV w' xs[j] (y j) (L+L+2)))
theorem zy {a:World} (h:a.grownBy w none) (k:w.grownBy w' (some b)) (hb:a.heap.size<=b):a.grownBy w' none:=aw h k (fun _ _ e=>e) (fun c hc e=>by cases e;omega)
theorem dh.set_some {a m:Nat} {R:Nat->Nat->Rat} (h:dh w a m n bs cs R L) {j:Nat} (f:j<m) (v:Value):∃ u,(w.setCell ⟨a,i,none⟩ v).cell? ⟨a,j,none⟩=some u:=by
 obtain ⟨d,e,hb,hc⟩:=h.top;have:=heap_setCell_same w a i d e v hb;simp only [World.cell?,this];exact ⟨_,Array.getElem?_eq_getElem (by simpa using (zZ (hc j f)).1)⟩
theorem Cd (n o cm E:Nat) (A:Nat->Nat->Rat) (s:Nat->Rat) (b:Nat->Nat) (m0:Nat->Nat->Rat) (hF hN:Nat->Nat) (X w:World) (hn:0<n) (jo:n<=1000) (hs:∀ q,s q≠0) (hb:∀ r,1<=b r) (hA:∀ r j,gY (b r) (A r j)) (hw:∀ q,gY (b q) (s q))
  (hE:dS n b<4294967296^E) (hE1:1<=E) (hE2:E<=100000000000) (hst:∀ i,i<n->∀ k,s i*m0 i k=A i k) (hg:X.grownBy w none) (hbr:X.heap.size<=o) (hbs:∀ i,i<n->X.heap.size<=hF i) (hm:dh w o n (n+1) hF hN m0 (3*E)) :
  Calls Tryz.prog 27 #[.slice (some ⟨o,0,none⟩) n cm,.int .i64 n] w fun e w'=>RkE X n m0 (3*E) e w':=by
 have hQ:Hid (∀ {m:Nat->Nat->Rat} {r c:Nat} {P:Nat->Nat} {perm:List Nat},Rk.Gj n A s m r c P perm->∀ i k,i<n->k<=n->bh (3*E) (m i k)):=fun h i k hi hk=>Rk.gj_fit h hs hb hA hw hE i k hi hk
 have HS:=ab hs;obtain ⟨L,hL⟩:=eX (3*E);rw [<- hL] at hQ hm ⊢;have jp:3<=L:=O
 have jv:L<=300000000000:=O
 have HM:=ab hm;have HG:=ab hg;have hR:=ab hbs;have hS:=ab hst;clear hs hb hA hw hE hL hm hg hbs hst;go_enter Tryz.func27,Tryz.ntmps27
 go_wp2;go_loopw [4,5,7,8] (fun v4 v5 v7 v8 wr=>Hid (RkO X n A s m0 o L v4 v5 v7 v8 wr)) (fun _ _ _ v8 _=>n+1-(intOf v8).toNat)
 case atStart=>exact ⟨0,0,0,fun _=>0,List.range n,m0,hF,hN,rfl,rfl,rfl,rfl,rfl,Rk.gj_start _ hS,fun _=>Iff.rfl,HM,HG,hR⟩
 case round =>
  obtain ⟨r,c,a,P,perm,m,bs,cs,rfl,rfl,rfl,rfl,ha,g,an,pm,gr,b1⟩:=hrel.out;have I:=ab ha;have kS:a<=r:=by rw [ha];exact Rk.lc_le n P r
  have G:=ab g;have AN:=ab an;have Q:=ab pm;have GR:=ab gr;have B1:=ab b1;have mc:r<=n:=g.red.rn;have yn:c<=n+1:=g.red.cn;clear ha g an pm gr b1 hrel HM HG hR hS;obtain ⟨U,hp⟩:=eX wr;subst hp;by_cases C:c<=n/\r<n
  ·obtain ⟨hc,hr⟩:=C;go_wp2;go_loopw [9] (fun v wr=>Hid (RkL U m n r c v wr)) (fun v _=>n-(intOf v).toNat)
   case atStart=>exact ⟨r,zL,O,rfl,fun i h1 h2=>O,rfl⟩
   case round =>
    obtain ⟨p,hI,mt,rfl,hz,rfl⟩:=hrel.out;have HZ:=ab hz;clear hz hrel;obtain ⟨U,hp⟩:=eX wr;subst hp;have md:(0:Int)<=(c:Int):=O
    have yo:(c:Int)<(n:Int)+1:=O
    by_cases D:p<n
    ·obtain ⟨ct,cf⟩:=Q.out.cell p D;obtain ⟨q,c0,c1,_⟩:=(Q.row p D).at c O;have C1:=ab c1;have ml:(0:Int)<=(p:Int):=O
     have yv:(p:Int)<(n:Int):=O
     clear c1;go_wp2_with fail;refine (mU q _ _ _ C1).mono ?_;rintro e w' ⟨rfl,rfl⟩;obtain ⟨U,hp⟩:=eX w';subst hp;by_cases S:m p c=0
     ·have B:ja (m p c).num=0:=mS.2 S;rw [B];have qc:Hid (∀ i,r<=i->i<p+1->m i c=0):=by
       intro i h1 h2;by_cases e:i=p
       ·rw [e];exact S
       ·exact HZ i h1 O
      clear S B HZ;go_wp2;go_roundw
      case rel=>exact ⟨p+1,O,O,zN,qc,rfl⟩
      case measure=>exact bH
     ·have B:(ja (m p c).num==0)=false:=by
       rw [beq_eq_false_iff_ne];exact fun e=>S (mS.1 e)
      obtain ⟨sg,F⟩:=eX (ja (m p c).num);rw [<- F] at B ⊢;have H0:=ab S;have hT:(((p:Nat):Int)==((n:Nat):Int))=false:=by rw [beq_eq_false_iff_ne];omega
      obtain ⟨rt,rf⟩:=Q.out.cell r hr;have qf:=cf p;have ql:=cf r;have mm:(0:Int)<=(r:Int):=O
      have jc:(r:Int)<(n:Int):=O
      obtain ⟨u1,yl⟩:=Q.out.set_some (i:=r) D (.slice (some ⟨bs p,0,none⟩) (n+1) (cs p));clear S F c0 cf rf HZ C1;go_upto_region 9 with fail;go_region
      obtain ⟨t1,t2⟩:=Q.out.swap hr D;obtain ⟨w5,hB⟩:=eX ((U.setCell ⟨o,r,none⟩ (.slice (some ⟨bs p,0,none⟩) (n+1) (cs p))).setCell ⟨o,p,none⟩ (.slice (some ⟨bs r,0,none⟩) (n+1) (cs r)));obtain ⟨m1,M⟩:=eX (Rk.dN m r p);obtain ⟨d,hu⟩:∃ f:Nat->Nat,f=fun i=>bs (aP r p i):=⟨_,rfl⟩
      obtain ⟨l,hD⟩:∃ f:Nat->Nat,f=fun i=>cs (aP r p i):=⟨_,rfl⟩
      rw [<- hB,<- hu,<- hD] at t1;rw [<- hB] at t2;have M5:Hid (dh w5 o n (n+1) d l m1 L):=by
       show dh ..
       rw [M,show Rk.dN m r p=fun i=>m (aP r p i) from funext (Rk.swp_I m r p)];exact t1
      have hW:Hid (X.grownBy w5 none):=zy GR t2.1 hbr;have B5:Hid (∀ i,i<n->X.heap.size<=d i):=by
       intro i hi;rw [hu];exact B1 _ (dr hr D hi)
      have hX:Hid (m1 r c≠0):=by rw [M,Rk.swp_r];exact H0
      have hC:Hid (∀ k,k<c->m1 r k=0):=by rw [M];exact Rk.col_low G hI D
      have GN:Hid (Rk.Gj n A s (Rk.dE m1 r (Rk.fc m1 r c)) (r+1) (c+1) (fun j=>if j=r then c else P j) (dH perm r p)):=by rw [M];exact Rk.gj_col HS G hc hI D H0
      have hY:Hid (∀ y,Rk.uy n (Rk.dE m1 r (Rk.fc m1 r c)) y↔Rk.uy n m0 y):=by
       intro y;rw [M];exact (Rk.ans_col G hI D _ y).trans (AN y)
      have FN:Hid (∀ i k,i<n->k<=n->bh L (Rk.dE m1 r (Rk.fc m1 r c) i k)):=hQ.out GN;rw [<- hB];clear hB M hu hD t1 t2 qf ql u1 yl ct rt Q GR B1 G AN H0 B hT;go_wp2;go_loopw [63] (fun v wr=>Hid (RkI X n o L d l m1 r c v wr)) (fun v _=>n-(intOf v).toNat)
      case atStart=>exact ⟨0,O,rfl,by rw [Rk.mxr_zero];exact M5.keep0 zE,aa hW zE⟩
      case round =>
       obtain ⟨i,hi,rfl,k1,k2⟩:=hrel.out;have T:=ab k1;have K2:=ab k2;clear k1 k2 hrel M5 hW;obtain ⟨w7,hJ⟩:=eX wr;subst hJ;by_cases t:i<n
       ·have qo:(0:Int)<=(i:Int):=O
        have ka:(i:Int)<(n:Int):=O
        by_cases Y:i=r
        ·have kb:(((i:Nat):Int)==((r:Nat):Int))=true:=by simp [Y]
         have KS:Hid (dh w7 o n (n+1) d l (Rk.xy m1 r c (i+1)) L):=by rw [Rk.mxr_same (.inl Y)];exact T
         clear Y T;go_wp2;go_roundw
         case rel=>exact ⟨i+1,O,zN,KS,K2⟩
         case measure=>exact bH
        ·have kb:(((i:Nat):Int)==((r:Nat):Int))=false:=by rw [beq_eq_false_iff_ne];omega
         have kc:=ab Y;clear Y;obtain ⟨it,_⟩:=T.out.cell i t;obtain ⟨qa,c0,c1,_⟩:=(T.row i t).at c O;rw [Rk.mxr_i] at c1;have C1:=ab c1;clear c1;go_wp2_with fail;refine (mU qa _ _ _ C1).mono ?_;rintro e w' ⟨rfl,rfl⟩;obtain ⟨w7,hJ⟩:=eX w';subst hJ;by_cases S:m1 i c=0
         ·have B:ja (m1 i c).num=0:=mS.2 S;have KS:Hid (dh w7 o n (n+1) d l (Rk.xy m1 r c (i+1)) L):=by rw [Rk.mxr_same (.inr S)];exact T
          rw [B];clear S B T C1;go_wp2;go_roundw
          case rel=>exact ⟨i+1,O,zN,KS,K2⟩
          case measure=>exact bH
         ·have B:(ja (m1 i c).num==0)=false:=by
           rw [beq_eq_false_iff_ne];exact fun e=>S (mS.1 e)
          obtain ⟨Ha,F⟩:=eX (ja (m1 i c).num);rw [<- F] at B ⊢;obtain ⟨rt,_⟩:=T.out.cell r hr;obtain ⟨qb,d0,d1,_⟩:=(T.row r hr).at c O;rw [Rk.mxr_r] at d1;have D1:=ab d1;have CX:Hid (∀ wx,w7.grownBy wx none->wx.cell? ⟨o,i,none⟩=some (.slice (some ⟨d i,0,none⟩) (n+1) (l i))/\wx.cell? ⟨d i,c,none⟩=some (.pointer (some ⟨qa,0,none⟩))/\wx.cell? ⟨o,r,none⟩=some (.slice (some ⟨d r,0,none⟩) (n+1) (l r))/\wx.cell? ⟨d r,c,none⟩=some (.pointer (some ⟨qb,0,none⟩))) :=
           fun wx hg=>⟨hg.cell it Z,hg.cell c0 Z,hg.cell rt Z,hg.cell d0 Z⟩
          clear S F it c0 rt d0 d1;have GG:w7.grownBy w7 none:=ae _ _;have s0:=CX.out w7 GG;go_upto_region 14 with fail;go_region_held3 (fun w'=>w'.cell? ⟨o,i,none⟩=some (.slice (some ⟨d i,0,none⟩) (n+1) (l i))/\w'.cell? ⟨d i,c,none⟩=some (.pointer (some ⟨qa,0,none⟩))/\w'.cell? ⟨o,r,none⟩=some (.slice (some ⟨d r,0,none⟩) (n+1) (l r))/\w'.cell? ⟨d r,c,none⟩=some (.pointer (some ⟨qb,0,none⟩))) (go_keep)
           (first | (go_at_call 48;refine (wD qa qb _ _ L L _ ((C1.x O).keep0 (gx GG)) ((D1.x O).keep0 (gx GG)) hX O).mono ?_;rintro e V ⟨fq,rfl,y1,W,y3⟩;have GG:=aa (gx GG) W;have k0:=CX.out V GG;have Y1:=ab y1;clear y1 W y3))
          all_goals
           have K8:Hid (dh V o n (n+1) d l (Rk.BP m1 r c i c) L):=(T.keep0 GG).congr (fun x _ y _=>Rk.mxk_start hC x y);have G8:Hid (X.grownBy V none):=aa K2 GG;clear s0 k0 T K2 CX C1 D1 GG;go_wp2;go_loopw [12] (fun v wr=>Hid (RkK X n o L d l m1 r c i fq v wr)) (fun v _=>n+1-(intOf v).toNat)
           case atStart=>exact ⟨c,zL,O,rfl,K8.keep0 zE,.inl (Y1.keep0 zE),aa G8 zE⟩
           case round =>
            obtain ⟨k,Hb,Hc,rfl,l1,l2,l3⟩:=hrel.out;have L1:=ab l1;have L2:=ab l2;have L3:=ab l3;clear l1 l2 l3 hrel;by_cases kf:k<=n
            ·obtain ⟨it,_⟩:=L1.out.cell i t;obtain ⟨rt,_⟩:=L1.out.cell r hr;obtain ⟨pa,c0,c1,cf⟩:=(L1.row i t).at k O;obtain ⟨pb,d0,d1,_⟩:=(L1.row r hr).at k O;rw [Rk.mxk_i] at c1;rw [Rk.mxk_r kc] at d1;have C1:=ab c1;have D1:=ab d1;have mo:(0:Int)<=(k:Int):=O
             have jg:(k:Int)<(n:Int)+1:=O
             have CF:Hid (∀ wx,wr.grownBy wx none->wx.frozen? ⟨d i,k,none⟩=false):=fun wx hg=>((L1.keep0 hg).row i t |>.at k O).elim fun _ h=>h.2.2 k
             have CX:Hid (∀ wx,wr.grownBy wx none->wx.cell? ⟨o,i,none⟩=some (.slice (some ⟨d i,0,none⟩) (n+1) (l i))/\wx.cell? ⟨d i,k,none⟩=some (.pointer (some ⟨pa,0,none⟩))/\wx.cell? ⟨o,r,none⟩=some (.slice (some ⟨d r,0,none⟩) (n+1) (l r))/\wx.cell? ⟨d r,k,none⟩=some (.pointer (some ⟨pb,0,none⟩))) :=
              fun wx hg=>⟨hg.cell it Z,hg.cell c0 Z,hg.cell rt Z,hg.cell d0 Z⟩
             clear it rt c0 d0 c1 d1 cf;have GG:wr.grownBy wr none:=ae _ _;have s0:=CX.out wr GG;have MC:Hid (∀ wx,wr.grownBy wx none->Calls Tryz.prog 50 #[.pointer (some ⟨fq,0,none⟩),.pointer (some ⟨pb,0,none⟩)] wx fun e w'=>CM wx (Rk.fc m1 r c i*m1 r k) (L+L+2+L+2) e w'):=fun wx hg=>Fc fq pb _ _ (L+L+2) L wx ((L2.x O).keep0 hg) ((D1.x O).keep0 hg) O
             have SC:Hid (∀ wx bm,wr.grownBy wx none->RQ wx bm (Rk.fc m1 r c i*m1 r k) (L+L+2+L+2)->Calls Tryz.prog 49 #[.pointer (some ⟨pa,0,none⟩),.pointer (some ⟨bm,0,none⟩)] wx fun e w'=>CM wx (m1 i k-Rk.fc m1 r c i*m1 r k) (L+(L+L+2+L+2)+3) e w'):=fun wx bm hg hq=>As pa bm _ _ L (L+L+2+L+2) wx ((C1.x O).keep0 hg) hq.x O
             go_upto_region 18 with fail;refine hdL (fun w'=>w'.cell? ⟨o,i,none⟩=some (.slice (some ⟨d i,0,none⟩) (n+1) (l i))/\w'.cell? ⟨d i,k,none⟩=some (.pointer (some ⟨pa,0,none⟩))/\w'.cell? ⟨o,r,none⟩=some (.slice (some ⟨d r,0,none⟩) (n+1) (l r))/\w'.cell? ⟨d r,k,none⟩=some (.pointer (some ⟨pb,0,none⟩))) (fun j=>j==23) (fun hHeld=>?_);refine tkL 4 [(0,101,.slice (some ⟨o,0,none⟩) n cm),(1,102,.int .i64 i),(2,103,.pointer (some ⟨o,i,none⟩)),(3,104,.slice (some ⟨d i,0,none⟩) (n+1) (l i)),(4,105,.int .i64 k),(5,106,.slice (some ⟨o,0,none⟩) n cm),(6,107,.int .i64 i),(7,108,.pointer (some ⟨o,i,none⟩)),(8,109,.slice (some ⟨d i,0,none⟩) (n+1) (l i)),(9,110,.int .i64 k),(10,111,.pointer (some ⟨d i,k,none⟩)),(11,112,.pointer (some ⟨pa,0,none⟩)),(12,113,.pointer (some ⟨fq,0,none⟩)),(13,114,.slice (some ⟨o,0,none⟩) n cm),(14,115,.int .i64 r),(15,116,.pointer (some ⟨o,r,none⟩)),(16,117,.slice (some ⟨d r,0,none⟩) (n+1) (l r)),(17,118,.int .i64 k),(18,119,.pointer (some ⟨d r,k,none⟩)),(19,120,.pointer (some ⟨pb,0,none⟩))] ?_;simp only [zU];refine Ev 3 20 (fun K H=>?_);simp only [ax,q4,q5,q6,q7];go_simp
             go_at_call 50
             refine (MC _ (gx GG)).mono ?_;rintro e V ⟨ba,rfl,y1,W,y3⟩;have GG:=aa (gx GG) W;have k0:=CX.out V GG;have Y1:=ab y1;clear y1 W y3;go_wp2_with fail;refine bkL H (fun hHeld=>?_);clear H K;try simp only [zU]
             refine Ev 2 21 (fun K H=>?_);simp only [ax,q4,q5,q6,q7];go_simp
             go_at_call 49
             refine (SC _ ba (gx GG) (Y1.keep0 (gx (ae _ _)))).mono ?_;rintro e wb ⟨bb,rfl,y1,W,y3⟩;have GG:=aa (gx GG) W;have k1:=CX.out wb GG;have Y2:=ab y1;clear y1 W y3;go_wp2_with fail;refine bkL H (fun hHeld=>?_);clear H K;try simp only [zU]
             refine tkL 1 [(22,123,.pointer (some ⟨d i,k,none⟩))] ?_;simp only [zU];refine Ev 0 23 (fun K H=>?_);simp only [ax,q4,q5,q6,q7];have cf:=CF.out wb GG;go_simp
             refine bkT H ?_;clear H K;refine endL ?_;have NL:Hid (RV wb bb (Rk.dE m1 r (Rk.fc m1 r c) i k) L):=by
              have h1:=FN.out i k t kf;rw [Rk.less_at kc.out] at h1 ⊢;exact ab (RV.tightW (.inl Y2) h1)
             have MK:=L1.out.keep0 GG;have kk:=(MK.row i t).noB O;obtain ⟨t1,t2⟩:=(MK.row i t).set k O NL;have MS:Hid (dh (wb.setCell ⟨d i,k,none⟩ (.pointer (some ⟨bb,0,none⟩))) o n (n+1) d l (Rk.BP m1 r c i (k+1)) L):=by
              show dh ..
              rw [Rk.mxk_put];exact MK.step O t t1 t2
             have LS:Hid (RV (wb.setCell ⟨d i,k,none⟩ (.pointer (some ⟨bb,0,none⟩))) fq (Rk.fc m1 r c i) (L+L+2)):=(L2.keep0 GG).keepW t2.1 t2.2 ((L2.keep0 GG).apart kk);have GS:Hid (X.grownBy (wb.setCell ⟨d i,k,none⟩ (.pointer (some ⟨bb,0,none⟩))) none):=zy (aa L3 GG) t2.1 (B5 i t);obtain ⟨w9,kN⟩:=eX (wb.setCell ⟨d i,k,none⟩ (.pointer (some ⟨bb,0,none⟩)));rw [<- kN] at MS LS GS ⊢;clear kN t1 t2 kk MK NL L1 L2 L3 MC SC CX CF C1 D1 Y1 Y2 k0 k1 s0 cf hHeld GG;go_wp2;go_roundw
             case rel=>exact ⟨k+1,O,O,zN,MS,LS,GS⟩
             case measure=>exact bH
            ·obtain rfl:k=n+1:=O
             have KS:Hid (dh wr o n (n+1) d l (Rk.xy m1 r c (i+1)) L):=L1.out.congr (fun x _ y hy=>Rk.mxk_end x y hy);clear L1 L2;go_wp2;go_roundw
             case rel=>exact ⟨i+1,O,zN,KS,L3⟩
             case measure=>exact bH
       ·obtain rfl:i=n:=O
        have KF:Hid (dh w7 o i (i+1) d l (Rk.dE m1 r (Rk.fc m1 r c)) L):=T.out.congr (fun x hx y _=>by rw [Rk.mxr_end hx]);have kl:=ab (Rk.lc_col (n:=i) (r:=r) (P:=P) hc);clear T FN hX hC;by_cases ko:c<i
        ·have he:Hid (a+1=Rk.lc i (fun j=>if j=r then c else P j) (r+1)):=by show _=_;rw [kl,if_pos ko,I]
         go_wp2;go_roundw
         case rel=>exact ⟨r+1,c+1,a+1,_,_,_,d,l,zN,zN,zN,zN,he,GN,hY,KF,K2,B5⟩
         case measure=>exact bH
        ·have he:Hid (a=Rk.lc i (fun j=>if j=r then c else P j) (r+1)):=by show _=_;rw [kl,if_neg ko,I];rfl
         go_wp2;go_roundw
         case rel=>exact ⟨r+1,c+1,a,_,_,_,d,l,rfl,zN,zN,zN,he,GN,hY,KF,K2,B5⟩
         case measure=>exact bH
    ·obtain rfl:p=n:=O
     have qq:=ab (Rk.gj_skip G hc (fun i h1 h2=>HZ i h1 h2));have hT:(((p:Nat):Int)==((p:Nat):Int))=true:=Z
     clear G HZ;go_wp2;go_roundw
     case rel=>exact ⟨r,c+1,a,P,perm,m,bs,cs,rfl,rfl,rfl,zN,I,qq,AN,Q,GR,B1⟩
     case measure=>exact bH
  ·have kw:=Rk.gj_end G C;rcases kw with ⟨h1,h2⟩ | ⟨h1,h2,h3⟩ | ⟨h1,h2,h3,h4,h5⟩
   ·rw [<- I] at h1;have kz:(((a:Nat):Int)==((n:Nat):Int))=false:=by rw [beq_eq_false_iff_ne];omega
    have H2:Hid (∀ y,¬ Rk.uy n m0 y):=fun y hy=>h2 y ((AN y).2 hy)
    clear h2 G;by_cases hc:c<=n
    ·have hr:¬ r<n:=fun h=>C ⟨hc,h⟩
     clear C;go_wp2;go_ret3
     exact ⟨a,r,_,rfl,GR,.inl ⟨h1,H2⟩⟩
    ·clear C;go_wp2;go_ret3
     exact ⟨a,r,_,rfl,GR,.inl ⟨h1,H2⟩⟩
   ·rw [<- I] at h1;have kz:(((a:Nat):Int)==((n:Nat):Int))=false:=by rw [beq_eq_false_iff_ne];omega
    have H3:Hid (∃ y z q,Rk.uy n m0 y/\Rk.uy n m0 z/\q<n/\y q≠z q):=by
     obtain ⟨y,z,q,e1,e2,e3,e4⟩:=h3;exact ⟨y,z,q,(AN y).1 e1,(AN z).1 e2,e3,e4⟩
    have hc:¬ c<=n:=fun h=>C ⟨h,h2⟩
    have H1:=ab h1;have qs:a<n:=O
    clear h1 h3 G C;go_wp2;go_ret3
    exact ⟨a,r,_,rfl,GR,.inr (.inl ⟨H1,qs,H3⟩)⟩
   ·rw [<- I] at h1;have e1:n=r:=h2.symm;subst e1;have e2:n=a:=h1.symm;subst e2;have kz:(((n:Nat):Int)==((n:Nat):Int))=true:=Z
    have H3:=ab ((AN _).1 h3);have H4:Hid (∀ z,Rk.uy n m0 z->∀ i,i<n->z i=m i n / m i i):=fun z hz=>h4 z ((AN z).2 hz)
    have H5:=ab h5;have mp:¬ n<n:=O
    clear h1 h2 h3 h4 h5 G AN I kS;by_cases hc:c<=n
    all_goals
     clear C;go_wp2;go_loopw [6,13] (fun v6 v13 wr=>Hid (RkX U n m L v6 v13 wr)) (fun _ v13 _=>n-(intOf v13).toNat)
     case atStart=>exact ⟨0,[],O,rfl,rfl,mN,fun j h=>by simp at h,ae _ _⟩
     case round =>
      obtain ⟨i,xs,hi,rfl,hM,ox,hx,g5⟩:=hrel.out;obtain ⟨xo,xc,rfl⟩:=ox.1.shape;have hf:=ab hM;have OX:=ab ox;have HX:=ab hx;have G5:=ab g5;rw [hM] at OX ⊢;clear hM ox hx g5 hrel;by_cases t:i<n
      ·have qo:(0:Int)<=(i:Int):=O
       have ka:(i:Int)<(n:Int):=O
       have jk:(i:Int)<(n:Int)+1:=O
       have ms:(0:Int)<=(n:Int):=O
       have jl:(n:Int)<(n:Int)+1:=O
       obtain ⟨it,_⟩:=Q.out.cell i t;obtain ⟨pa,c0,c1,_⟩:=(Q.row i t).at n O;obtain ⟨pb,d0,d1,_⟩:=(Q.row i t).at i O;have QC:Hid (∀ wx,U.grownBy wx none->Calls Tryz.prog 48 #[.pointer (some ⟨pa,0,none⟩),.pointer (some ⟨pb,0,none⟩)] wx fun e w'=>CM wx (m i n / m i i) (L+L+2) e w'):=fun wx hg=>wD pa pb _ _ L L wx ((c1.x O).keep0 hg) ((d1.x O).keep0 hg) (H5 i t) O
       have CZ:Hid (∀ wx ro,U.grownBy wx ro->(∀ k,ro=some k->U.heap.size<=k)->wx.cell? ⟨o,i,none⟩=some (.slice (some ⟨bs i,0,none⟩) (n+1) (cs i))/\wx.cell? ⟨bs i,n,none⟩=some (.pointer (some ⟨pa,0,none⟩))/\wx.cell? ⟨bs i,i,none⟩=some (.pointer (some ⟨pb,0,none⟩))):=by
        intro wx ro hg hk;have k1:=Q.out.lt;have k2:=(Q.row i t).lt;exact ⟨hg.cell it (fun e=>by have:=hk o e.symm;omega),hg.cell c0 (fun e=>by have:=hk (bs i) e.symm;omega),hg.cell d0 (fun e=>by have:=hk (bs i) e.symm;omega)⟩
       clear it c0 c1 d0 d1;have GG:U.grownBy wr none:=G5.out;have s0:=CZ.out wr none GG nofun;go_upto_region 28 with fail;refine hd (fun w'=>w'.cell? ⟨o,i,none⟩=some (.slice (some ⟨bs i,0,none⟩) (n+1) (cs i))/\w'.cell? ⟨bs i,n,none⟩=some (.pointer (some ⟨pa,0,none⟩))/\w'.cell? ⟨bs i,i,none⟩=some (.pointer (some ⟨pb,0,none⟩))) (fun hHeld=>?_);refine tk 4 [(0,147,.slice xo i xc),(1,148,.slice (some ⟨o,0,none⟩) n cm),(2,149,.int .i64 i),(3,150,.pointer (some ⟨o,i,none⟩)),(4,151,.slice (some ⟨bs i,0,none⟩) (n+1) (cs i)),(5,152,.int .i64 n),(6,153,.pointer (some ⟨bs i,n,none⟩)),(7,154,.pointer (some ⟨pa,0,none⟩)),(8,155,.slice (some ⟨o,0,none⟩) n cm),(9,156,.int .i64 i),(10,157,.pointer (some ⟨o,i,none⟩)),(11,158,.slice (some ⟨bs i,0,none⟩) (n+1) (cs i)),(12,159,.int .i64 i),(13,160,.pointer (some ⟨bs i,i,none⟩)),(14,161,.pointer (some ⟨pb,0,none⟩))] ?_;simp only [zU];refine cX 3 15 (fun K H=>?_);simp only [ax,q4,q5,q6,q7];go_simp
       go_at_call 48
       refine (QC _ (gx GG)).mono ?_;rintro e V ⟨bq,rfl,y1,W,y3⟩;have kF:Hid (wr.heap.size<=bq):=Nat.le_trans (show wr.heap.size<=_ from (by first | exact (aC (w:=wr)).size | exact (aS (w:=wr) _).size | exact zL)) y3;have GW:wr.grownBy V none:=aa (gx (ae wr none)) W;have GG:=aa (gx GG) W;have k0:=CZ.out V none GG nofun;have Y1:=ab y1;clear y1 W y3;go_wp2_with fail;refine bk H (fun hHeld=>?_);clear H K;try simp only [zU]
       refine cX 2 16 (fun K H=>?_);simp only [ax,q4,q5,q6,q7];go_simp
       refine bk H (fun hHeld=>?_);clear H K;try simp only [zU]
       refine on1e 1 17 ⟨some 164,.call ⟨.builtin .append,#[.tmp 147,.tmp 163],#[38,38]⟩,38, "nets.go:394",#[⟨0,.data⟩,⟨16,.data⟩,⟨15,.chain⟩],none⟩ (fun K H=>?_);have hG:Hid (pI (V.alloc (Obj.cells #[.pointer (some ⟨bq,0,none⟩)] 65)) U.heap.size (.slice xo i xc) xs):=OX.out.keep0 (aa GW (by first | exact ag (ae _ _) _ | exact ak (ag (ae _ _) _) 1 | exact ag aC _ | exact ag (aS _) _));refine ru pfV 65 (.pointer none) 8 _ rfl _ _ 38 rfl U.heap.size Tryz.underlying38 Tryz.infoPR rfl (fun x=>by intro e;cases e) (fun u x=>by intro e;cases e) (.slice xo i xc) xs rfl hG V.heap.size bq rfl (by go_simp;rfl) rfl (by rw [hf];omega) zD (by simp;exact Nat.le_succ_of_le GG.size) ?_;intro yc kH w6 hl ho hH;have hv:wr.grownBy (V.alloc (Obj.cells #[.pointer (some ⟨bq,0,none⟩)] 65)) none:=aa GW (ag (ae _ _) _);have G6:Hid (U.grownBy w6 none):=aw (r:=none) (aa G5 hv) ho (fun _ _ e=>e) (fun b hb e=>by have:=(OX.1.fresh b e.symm).1;omega);have z6:=CZ.out w6 _ (aw (r:=(Value.slice xo i xc).ownBlock) (aa G5 hv) ho nofun (fun _ _ e=>e)) (fun k e=>(OX.1.fresh k e).1);have X6:Hid (∀ j (h:j<(xs++[bq]).length),RV w6 (xs++[bq])[j] (m j n / m j j) (L+L+2)):=by
        intro j h;by_cases hj:j<xs.length
        ·rw [List.getElem_append_left hj];have h1:=(HX j hj).keep0 hv;exact h1.keepW ho hH (h1.apart (hG.noB O))
        ·have ej:j=xs.length:=by simp at h;omega
         have ei:j=i:=by rw [ej];exact hf
         subst ei;rw [List.getElem_append_right O];simp only [ej,Nat.sub_self,List.getElem_cons_zero];have h1:RV (V.alloc (Obj.cells #[.pointer (some ⟨bq,0,none⟩)] 65)) bq (m j n / m j j) (L+L+2):=.inl (Y1.keep0 (ag (ae _ _) _));rw [ej] at h1;refine h1.keepW ho hH (fun e=>?_);have h2:=(OX.1.fresh bq e.symm).2;have h3:=kF.out;omega
       rw [hf] at hl ⊢;have OW:=ab hl;clear hl ho hH hv s0 k0 OX HX hG Y1;refine bk H (fun hHeld=>?_);clear H K;refine tk 0 [(18,6,.slice yc (i+1) kH)] ?_;try simp only [zU]
       refine wpAnyH_done zK ?_ _;clear hHeld z6 GG GW CZ QC kF;go_wp2;go_roundw
       case rel=>exact ⟨i+1,xs++[bq],O,zN,by rw [List.length_append,hf];rfl,OW,X6,G6⟩
       case measure=>exact bH
      ·obtain rfl:i=n:=O
       go_wp2;go_ret3
       exact ⟨i,i,_,rfl,aa GR G5,.inr (.inr ⟨rfl,rfl,fun k=>m k i / m k k,xs,H3,H4,hf,by have:=OX.out.low GR.size;exact this,fun j h=>HX j h⟩)⟩
def kg (w:World) (b:Nat) (v:Value):Prop:=w.heap[b]? = some (Obj.cells #[v] 60 (0,0))
theorem kg.lt (h:kg w b v):b<w.heap.size:=(zZ h).1
theorem kg.keep (h:kg w b v) (g:w.grownBy w' r) (a:some b≠r):kg w' b v:=by
 have d:=h.lt;unfold kg at h ⊢;rw [g.block b d a,h]
theorem kg.cells (h:kg w b v):w.cell? ⟨b,0,none⟩=some v/\w.frozen? ⟨b,0,none⟩=false:=by
 unfold kg at h;exact ⟨by simp [World.cell?,h],by simp [World.frozen?,h]⟩
theorem kg.set {a:Option Addr} {l:Nat} (h:kg w b (.slice a l c)) (x:Value):kg (w.setCell ⟨b,0,none⟩ x) b x/\aK w (w.setCell ⟨b,0,none⟩ x) b:=by
 unfold kg at h ⊢;exact ⟨by rw [heap_setCell_same w b 0 _ _ _ h];rfl,aK.set h (fun y e=>by simp at e) _⟩
def FzR (w:World) (g n:Nat) (v:Value) (wr:World):Prop :=
 ∃ (i:Nat) (xs:List (Option Nat)),i<=n/\v=.int .i64 i/\xs.length=n/\fk pv 65 wr g xs/\(∀ k,k<i->∃ p,xs[k]? = some (some p)/\RV wr p 0 4)/\w.grownBy wr none
theorem fk.rowW {g:Nat} (h:fk pv 65 w g xs) (i:Nat) (z:Value):aK w (w.setCell ⟨g,i,none⟩ z) g:=by
 refine aK.set h (fun x e=>?_) z;rw [List.getElem?_toArray,List.getElem?_map] at e;cases hx:xs[i]? with
 | none=>rw [hx] at e;cases e
 | some u =>
  rw [hx] at e;cases u<;>cases e
theorem fk.noBp {g:Nat} (h:fk pv 65 w g xs) (a:0<xs.length):zb w (some g):=by
 intro k e;obtain rfl:=zJ e;refine ⟨_,h.cell 0 a,fun x e=>?_⟩;cases hu:xs[0] with
 | none=>rw [hu] at e;cases e
 | some u=>rw [hu] at e;cases e
theorem fk.prow {g:Nat} (h:fk pv 65 w g xs) (a:∀ k,k<n->∃ p,xs[k]? = some (some p)/\RV w p 0 4):di w g n (fun _=>0) 4:=by
 refine ⟨_,_,h,fun i hi=>?_⟩;obtain ⟨p,d,e⟩:=a i hi;refine ⟨p,?_,e⟩;rw [List.getElem?_toArray,List.getElem?_map,d];rfl
theorem qt {w1:World} {g:Nat} {v1:Value} {t:TypeId} {R:Nat->Nat->Rat} (h:cV (eC n) t w base v (bW bs cs i)) (hn:0<n) (d:gR w base n i bs cs R L)
  (h4:di w g n (fun _=>0) 4) (hv:v.ownBlock≠some g) (hg:w.grownBy w1 v.ownBlock) (hk:aO w w1) (h0:i=0->v.ownBlock=none) (ho:cV (eC n) t w1 base v1 (bW bs cs i++[(g,c)])) :
  cV (eC n) t w1 base v1 (bW (cT bs i g) (cT cs i c) (i+1))/\gR w1 base n i bs cs R L/\di w1 g n (fun _=>0) 4:=by
 rw [sI] at ho;have a:zb w v.ownBlock:=by
  rcases zP i with e | e
  ·rw [h0 e];exact zb.none w
  ·exact h.noB e
 exact ⟨ho,d.keepB hg hk (fun j f=>h.ne_prow O (d.row j f) hn) a,h4.keep hg hk (fun e=>hv e.symm) a⟩
def FreshE (w:World) (oa:Option Addr) (oc gm n i:Nat) (bs cs:Nat->Nat) (R:Nat->Nat->Rat) (L:Nat) (e:Ending) (w':World):Prop :=
 ∃ (g:Nat) (ao:Option Addr) (cap:Nat),e=.returned (.slice (some ⟨g,0,none⟩) n n)/\w.heap.size<=g/\kg w' gm (.slice ao (i+1) cap)/\cV (eC n) 90 w' (gm+1) (.slice ao (i+1) cap) (bW (cT bs i g) (cT cs i n) (i+1))
  /\ gR w' (gm+1) n i bs cs R L/\di w' g n (fun _=>0) 4/\gm+1<=g/\(∀ j,j<i->bs j≠g)/\w'.heap.size≥w.heap.size/\(∀ (W:World),W.grownBy w none->W.heap.size<=gm->W.grownBy w' none)
  /\ ∀ k,k<w.heap.size->k≠gm->(Value.slice oa i oc).ownBlock≠some k->w'.heap[k]? = w.heap[k]?
theorem Tryz.infoRowP:(Tryz.prog.info? 90).map (fun i=>(i.zero,i.size,i.bytes))=some (some (.slice none 0 0),1,24):=zK
theorem uZ (gs f d i C L:Nat) (B:Option Addr) (bs cs:Nat->Nat) (R:Nat->Nat->Rat) (w:World) (hs:w.cell? ⟨gs,0,none⟩=some (.int .i64 d)) (hz:d<=100000) (hb:kg w f (.slice B i C))
  (ho:cV (eC (d+1)) 90 w (f+1) (.slice B i C) (bW bs cs i)) (hr:gR w (f+1) (d+1) i bs cs R L) (hi:i<=1000) (h0:i=0->B=none) :
  Calls Tryz.prog 44 #[.pointer (some ⟨gs,0,none⟩),.pointer (some ⟨f,0,none⟩)] w fun e w'=>FreshE w B C f (d+1) i bs cs R L e w':=by
 have HB:=ab hb;have HO:=ab ho;have HR:=ab hr;clear hb ho hr;go_enter Tryz.func44,Tryz.ntmps44
 have hw:IntKind.i64.wrap ((d:Int)+1)=(d:Int)+1:=IntWalk.i64_in _ ⟨O,O⟩;go_wp2_with (at_make;refine eI pv 65 none 8 _ rfl _ _ 90 rfl Tryz.underlying90 Tryz.infoPR rfl _ _ _ _ (d+1) rfl rfl O O O O ?_)
 intro w1 ha g1;obtain ⟨g,hg⟩:=eX w.heap.size;rw [<- hg] at ha ⊢;have HA:=ab ha;have G1:=ab g1;have s:Hid (w.heap.size<=g):=Nat.le_of_eq hg.symm;have hu:Hid (g=w.heap.size):=hg;clear ha g1 hg hs;have H0:Hid (i=0->(Value.slice B i C).ownBlock=none):=fun e=>by rw [h0 e];rfl
 clear h0;go_wp2;go_loopw [10] (fun v wr=>Hid (FzR w g (d+1) v wr)) (fun v _=>d+1-(intOf v).toNat)
 case atStart=>exact ⟨0,_,O,rfl,Z,HA,fun k h=>O,G1⟩
 case round =>
  obtain ⟨k,xs,hk,rfl,X,ha,hp,g2⟩:=hrel.out;have Y:=ab ha;have P2:=ab hp;have D:=ab g2;have t:=ab X;clear ha hp g2 X hrel HA G1;by_cases hlt:k<d+1
  ·have hx:(0:Int)<=(k:Int):=O
   have hq:(k:Int)<(d:Int)+1:=O
   go_wp2_with fail;refine (fB 0 wr O O).mono ?_;rintro e w2 ⟨q,rfl,y1,y2,y3⟩;have e0:((0:Int):Rat)=0:=rfl;rw [e0] at y1;have H:=Y.out.keep0 y2;have c1:=H.cell k (by rw [t];exact hlt);have c2:=H.free k;have Q:=H.set k (some q) (.pointer (some ⟨q,0,none⟩)) rfl;have o:=H.rowW k (.pointer (some ⟨q,0,none⟩));have no:=H.noBp (by rw [t];omega);have P3:Hid (∀ j,j<k+1->∃ p,(xs.set k (some q))[j]? = some (some p)/\RV (w2.setCell ⟨g,k,none⟩ (.pointer (some ⟨q,0,none⟩))) p 0 4):=by
    intro j hj;by_cases e:j=k
    ·subst e;have F:RV w2 q 0 4:=.inl y1;exact ⟨q,by rw [List.getElem?_set_self (by rw [t];exact hlt)],F.keepW o.1 o.2 (F.apart no)⟩
    ·obtain ⟨p,F,h2⟩:=P2.out j O;have h3:=h2.keep0 y2;exact ⟨p,by rw [List.getElem?_set_ne (Ne.symm e)];exact F,h3.keepW o.1 o.2 (h3.apart no)⟩
   have A4:=ab Q;have G3:=ab (aa D y2);clear Q o no H y1 y2 y3 e0 Y P2;go_wp2;go_roundw
   case rel=>exact ⟨k+1,xs.set k (some q),O,zN,by rw [List.length_set];exact t,A4,P3,ah G3 _ _ s⟩
   case measure=>exact bH
  ·obtain rfl:k=d+1:=O
   have PR:Hid (di wr g (d+1) (fun _=>0) 4):=Y.out.prow P2;have B2:=ab (HB.keep D Z);have S:=ab (HO.keep0 D);have R2:=ab (HR.keep0 D);have he:Hid ((Value.slice B i C).ownBlock≠some g):=fun e=>by have:=(HO.1.fresh g e).2;have:=s.out;omega
   have hf:Hid (∀ j,j<i->bs j≠g):=fun j hj e=>by have:=(HR.row j hj).lt;have:=s.out;omega
   have T:Hid (f+1<=g):=by have:=HB.out.lt;have:=s.out;show _<=_;omega
   obtain ⟨m0,m1⟩:=B2.out.cells;clear Y P2 HB HO HR t hlt;go_wp2_with (at_builtin;refine eN (eC (d+1)) 90 (.slice none 0 0) 24 _ rfl _ _ 60 rfl (f+1) Tryz.underlying60 Tryz.infoRowP rfl (fun x=>by simp [Value.cells]) (fun u x=>by simp [eC]) (.slice B i C) (bW bs cs i) rfl (S.keep0 (ag (ae _ _) _)) wr.heap.size (g,d+1) rfl (by go_simp;rfl) rfl (by rw [bB];omega) O (by simp;have:=B2.out.lt;omega) ?_)
   intro A a M z m V;rw [bB] at z ⊢;have l:=ag (ae wr none) (Obj.cells #[.slice (some ⟨g,0,none⟩) (d+1) (d+1)] 90);have I:=ab (qt (S.keep0 l) O (R2.keep0 l) (PR.keep0 l) he m V H0 z);have U:some f≠(Value.slice B i C).ownBlock:=fun e=>by have:=(S.1.fresh f e.symm).1;omega
   have B5:=(B2.keep l Z).keep m U;obtain ⟨n0,n1⟩:=B5.cells;obtain ⟨Q,o⟩:=B5.set (.slice A (i+1) a);have E:(Value.slice A (i+1) a).ownBlock=none∨(Value.slice A (i+1) a).ownBlock≠some f:=by
    cases hv:(Value.slice A (i+1) a).ownBlock with
    | none=>exact .inl rfl
    | some k =>
     right
     intro e;have:=(I.1.1.fresh k hv).1;have:=zJ e;omega
   have B6:=ab Q;have O6:=ab (I.1.keep o.1 E);have G:zb M (some f):=fun k e=>by
    obtain rfl:=zJ e;exact ⟨_,n0,fun x=>Z⟩
   have R6:Hid (gR (M.setCell ⟨f,0,none⟩ (.slice A (i+1) a)) (f+1) (d+1) i bs cs R L):=I.out.2.1.keepB o.1 o.2 (fun j hj e=>by have:=I.out.2.1.low j hj;have:=zJ e;omega) G;have P6:Hid (di (M.setCell ⟨f,0,none⟩ (.slice A (i+1) a)) g (d+1) (fun _=>0) 4):=I.out.2.2.keep o.1 o.2 (fun e=>by have:=T.out;have:=zJ e;omega) G;have GF:Hid (∀ (W:World),W.grownBy w none->W.heap.size<=f->W.grownBy (M.setCell ⟨f,0,none⟩ (.slice A (i+1) a)) none):=by
    intro W h hl;refine ah (aw (r:=none) (aa (aa h D) l) m (fun _ _ e=>e) (fun b hb e=>?_)) _ _ hl;have:=(S.1.fresh b e.symm).1;omega
   have GK:Hid (∀ k,k<w.heap.size->k≠f->(Value.slice B i C).ownBlock≠some k->(M.setCell ⟨f,0,none⟩ (.slice A (i+1) a)).heap[k]? = w.heap[k]?):=by
    intro k F h2 h3;have h4:=Nat.lt_of_lt_of_le F D.size;rw [heap_setCell_other _ _ k _ h2,m.block k (Nat.lt_of_lt_of_le h4 l.size) (fun e=>h3 e.symm),l.block k h4 Z,D.block k F Z]
   have hm:Hid ((M.setCell ⟨f,0,none⟩ (.slice A (i+1) a)).heap.size≥w.heap.size):=by
    exact Nat.le_trans D.size (Nat.le_trans l.size (Nat.le_trans m.size Z))
   clear z m V l I U B5 Q o E G m0 m1 S R2 B2 PR;go_wp2;go_ret;exact ⟨g,A,a,rfl,s,B6,O6,R6,P6,T,hf,hm,GF,GK⟩
end Go.Proofs.YtbomdfhdocaagaaGreatDoor
