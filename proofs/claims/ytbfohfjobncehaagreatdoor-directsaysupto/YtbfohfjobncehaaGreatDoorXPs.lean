/- Contracts. -/
import Derived.Test.YtbfohfjobncehaaGreatDoorXPq
import Derived.Test.YtbfohfjobncehaaGreatDoorXPk
namespace Go.Proofs.YtbfohfjobncehaaGreatDoor
open Go.RowKit
set_option linter.all false
set_option maxHeartbeats 8000000
set_option maxRecDepth 10000
variable {w w':World} {b n L i N c base g:Nat} {R y K J O:Nat->Rat} {q:Rat} {ps:List aD} {v z:Value} {r:Option Nat} {bs cs P:Nat->Nat} {m1:Nat->Nat->Rat} {xs:List (Option Nat)}
theorem ay.keepW {off:Nat} {z:Int} (h:ay w b off z L) (g:w.grownBy w' r) (k:aN w w') (f:some b≠r):ay w' b off z L:=by
 obtain ⟨neg,v,d,j,l⟩:=h;have e:w'.heap[b]? = w.heap[b]?:=g.block b d.lt f;exact ⟨neg,v,⟨(World.cell?_of_block (a:=⟨b,off,none⟩) e).trans d.c0,(World.cell?_of_block (a:=⟨b,off+1,none⟩) e).trans d.c1,(World.frozen?_of_block (a:=⟨b,off,none⟩) e).trans d.f0,(World.frozen?_of_block (a:=⟨b,off+1,none⟩) e).trans d.f1⟩,j.kept k,l⟩
theorem RV.keepW (h:RV w b q L) (g:w.grownBy w' r) (k:aN w w') (a:some b≠r):RV w' b q L:=by
 rcases h with h | ⟨e,h⟩
 ·exact .inl ⟨h.1.keepW g k a,h.2.1.keepW g k a,h.2.2⟩
 ·exact .inr ⟨e,h.1.keepW g k a,h.2.keepW g k a⟩
theorem RV.bool (h:RV w b q L):∃ x,w.cell? ⟨b,0,none⟩=some (.bool x):=by
 obtain ⟨z,y,⟨a,v1,d,_⟩,_⟩:=h.ints;exact ⟨a,d.c0⟩
def za (w:World) (r:Option Nat):Prop:=∀ k,r=some k->∃ v,w.cell? ⟨k,0,none⟩=some v/\∀ x,v≠.bool x
theorem za.none (w:World):za w none:=fun k e=>by cases e
theorem RV.apart (h:RV w b q L) (n:za w r):some b≠r:=by
 intro e;obtain ⟨v,a,d⟩:=n b e.symm;obtain ⟨x,f⟩:=h.bool;rw [f] at a;exact d x (zJ a).symm
def dt (w:World) (b n:Nat) (R:Nat->Rat) (L:Nat):Prop :=
 ∃ cur e,w.heap[b]? = some (.cells cur e (0,0))/\∀ i,i<n->∃ p,cur[i]? = some (.pointer (some ⟨p,0,none⟩))/\RV w p (R i) L
theorem dt.lt (h:dt w b n R L):b<w.heap.size:=by
 obtain ⟨a,e,hb,_⟩:=h;exact (zZ hb).1
theorem dt.keep (h:dt w b n R L) (g:w.grownBy w' r) (k:aN w w') (d:some b≠r) (hn:za w r):dt w' b n R L:=by
 have f:=h.lt;obtain ⟨a,e,hb,hc⟩:=h;refine ⟨a,e,by rw [g.block b f d];exact hb,fun i hi=>?_⟩;obtain ⟨p,c0,c1⟩:=hc i hi;exact ⟨p,c0,c1.keepW g k (c1.apart hn)⟩
theorem dt.keep0 (h:dt w b n R L) (g:w.grownBy w' none):dt w' b n R L:=h.keep g (aN.of_gr g) Z (za.none w)
theorem dt.congr {R':Nat->Rat} (h:dt w b n R L) (e:∀ i,i<n->R i=R' i):dt w b n R' L:=by
 obtain ⟨a,d,hb,hc⟩:=h;refine ⟨a,d,hb,fun i hi=>?_⟩;rw [<- e i hi];exact hc i hi
theorem dt.at (h:dt w b n R L) (i:Nat) (hi:i<n) :
  ∃ p,w.cell? ⟨b,i,none⟩=some (.pointer (some ⟨p,0,none⟩))/\RV w p (R i) L/\∀ k,w.frozen? ⟨b,k,none⟩=false:=by
 obtain ⟨a,e,hb,hc⟩:=h;obtain ⟨p,c0,c1⟩:=hc i hi;exact ⟨p,by simp only [World.cell?,hb];exact c0,c1,fun k=>by simp [World.frozen?,hb]⟩
theorem dt.noB (h:dt w b n R L) (hn:0<n):za w (some b):=by
 intro k e;obtain rfl:=zJ e;obtain ⟨p,c0,_⟩:=h.at 0 hn;exact ⟨_,c0,fun x=>Z⟩
theorem dt.set (h:dt w b n R L) (i:Nat) (hi:i<n) {p:Nat} (l:RV w p q L) :
  dt (w.setCell ⟨b,i,none⟩ (.pointer (some ⟨p,0,none⟩))) b n (aQ R i q) L/\aO w (w.setCell ⟨b,i,none⟩ (.pointer (some ⟨p,0,none⟩))) b:=by
 have a:=h.noB O;obtain ⟨k,e,hb,hc⟩:=h;obtain ⟨u,c0,c1⟩:=hc i hi;have d:aO w (w.setCell ⟨b,i,none⟩ (.pointer (some ⟨p,0,none⟩))) b:=aO.set hb (fun x ex=>by rw [c0] at ex;cases ex) _;refine ⟨⟨_,e,heap_setCell_same w b i k e _ hb,fun j t=>?_⟩,d⟩;by_cases f:j=i
 ·subst f;refine ⟨p,Array.getElem?_setIfInBounds_self_of_lt (zZ c0).1,?_⟩;unfold aQ;rw [if_pos rfl];exact l.keepW d.1 d.2 (l.apart a)
 ·obtain ⟨o,s,m⟩:=hc j t;refine ⟨o,by rw [Array.getElem?_setIfInBounds_ne (fun e=>f e.symm)];exact s,?_⟩;unfold aQ;rw [if_neg f];exact m.keepW d.1 d.2 (m.apart a)
structure dr (w:World) (br m n:Nat) (bs cs:Nat->Nat) (R:Nat->Nat->Rat) (L:Nat):Prop where
 top:∃ cur e,w.heap[br]? = some (.cells cur e (0,0))/\∀ i,i<m->cur[i]? = some (.slice (some ⟨bs i,0,none⟩) n (cs i))
 cap:∀ i,i<m->n<=cs i/\cs i<=maxLen
 row:∀ i,i<m->dt w (bs i) n (R i) L
 inj:∀ i j,i<m->j<m->bs i=bs j->i=j
 off:∀ i,i<m->bs i≠br
section
variable {w w':World} {br m n L:Nat} {bs cs:Nat->Nat} {R R':Nat->Nat->Rat}
theorem dr.lt (h:dr w br m n bs cs R L):br<w.heap.size:=by
 obtain ⟨a,e,hb,_⟩:=h.top;exact (zZ hb).1
theorem dr.cell (h:dr w br m n bs cs R L) (i:Nat) (hi:i<m):w.cell? ⟨br,i,none⟩=some (.slice (some ⟨bs i,0,none⟩) n (cs i))/\∀ k,w.frozen? ⟨br,k,none⟩=false:=by
 obtain ⟨a,e,hb,hc⟩:=h.top;exact ⟨by simp only [World.cell?,hb];exact hc i hi,fun k=>by simp [World.frozen?,hb]⟩
theorem dr.noB (h:dr w br m n bs cs R L) (a:0<m):za w (some br):=by
 intro k e;obtain rfl:=zJ e;exact ⟨_,(h.cell 0 a).1,fun x=>Z⟩
theorem dr.keep0 (h:dr w br m n bs cs R L) (g:w.grownBy w' none):dr w' br m n bs cs R L:=by
 have d:=h.lt;obtain ⟨a,e,hb,hc⟩:=h.top;exact ⟨⟨a,e,by rw [g.block br d Z];exact hb,hc⟩,h.cap,fun i hi=>(h.row i hi).keep0 g,h.inj,h.off⟩
theorem dr.congr (h:dr w br m n bs cs R L) (e:∀ i,i<m->∀ j,j<n->R i j=R' i j):dr w br m n bs cs R' L:=⟨h.top,h.cap,fun i hi=>(h.row i hi).congr (e i hi),h.inj,h.off⟩
theorem dr.step (h:dr w br m n bs cs R L) (hn:0<n) (hi:i<m) {Q:Nat->Rat} (l:dt w' (bs i) n Q L) (g:aO w w' (bs i)):dr w' br m n bs cs (fun j=>if j=i then Q else R j) L:=by
 have o:=h.lt;have d:=(h.row i hi).noB hn;obtain ⟨f,e,hb,hc⟩:=h.top;refine ⟨⟨f,e,by rw [g.1.block br o (fun e=>h.off i hi (zJ e).symm)];exact hb,hc⟩,h.cap,fun j k=>?_,h.inj,h.off⟩;by_cases a:j=i
 ·subst a;simp only [if_true];exact l
 ·simp only [if_neg a];exact (h.row j k).keep g.1 g.2 (fun e=>a (h.inj j i k hi (zJ e))) d
theorem dr.swap (h:dr w br m n bs cs R L) {a:Nat} (ha:a<m) (hb:b<m) :
  dr ((w.setCell ⟨br,a,none⟩ (.slice (some ⟨bs b,0,none⟩) n (cs b))).setCell ⟨br,b,none⟩ (.slice (some ⟨bs a,0,none⟩) n (cs a))) br m n (fun i=>bs (aP a b i)) (fun i=>cs (aP a b i)) (fun i=>R (aP a b i)) L
  /\ aO w ((w.setCell ⟨br,a,none⟩ (.slice (some ⟨bs b,0,none⟩) n (cs b))).setCell ⟨br,b,none⟩ (.slice (some ⟨bs a,0,none⟩) n (cs a))) br:=by
 have k:=h.noB O;obtain ⟨s,e,hh,hc⟩:=h.top;obtain ⟨d,p,t,f⟩:=tU hh (hc a ha) (hc b hb) (fun z=>Z) (fun z=>Z);generalize (w.setCell ⟨br,a,none⟩ (.slice (some ⟨bs b,0,none⟩) n (cs b))).setCell ⟨br,b,none⟩ (.slice (some ⟨bs a,0,none⟩) n (cs a))=w' at p f ⊢;have lt:∀ i,i<m->aP a b i<m:=fun i hi=>dA ha hb hi
 refine ⟨⟨⟨d,e,p,fun i hi=>?_⟩,fun i hi=>h.cap _ (lt i hi),fun i hi=>(h.row _ (lt i hi)).keep f.1 f.2 (fun l=>h.off _ (lt i hi) (zJ l)) k,fun i j hi u l=>?_,fun i hi=>h.off _ (lt i hi)⟩,f⟩
 ·rw [t i];exact hc _ (lt i hi)
 ·have:=h.inj _ _ (lt i hi) (lt j u) l;have o:aP a b (aP a b i)=aP a b (aP a b j):=by rw [this]
  rw [fg,fg] at o;exact o
theorem RV.tightW {L':Nat} (h:RV w b q L) (a:bh L' q):RV w b q L':=by
 rcases h with h | ⟨e,h⟩
 ·have s:q.num.natAbs<4294967296^L':=a.1;obtain ⟨⟨d,v1,f,j,k⟩,⟨l,v2,m,o,p⟩,t⟩:=h;exact .inl ⟨⟨d,v1,f,j.tight s,k⟩,⟨l,v2,m,o.tight a.2,p⟩,t⟩
 ·subst e;obtain ⟨⟨d,v1,f,j,k⟩,⟨l,v2,m,o,p⟩⟩:=h;exact .inr ⟨rfl,⟨d,v1,f,j.tight a.1,k⟩,⟨l,v2,m,o.tight a.1,p⟩⟩
end
structure gO (w:World) (base n i:Nat) (bs cs:Nat->Nat) (R:Nat->Nat->Rat) (L:Nat):Prop where
 low:∀ j,j<i->base<=bs j
 cap:∀ j,j<i->n<=cs j/\cs j<=maxLen
 row:∀ j,j<i->dt w (bs j) n (R j) L
 inj:∀ j k,j<i->k<i->bs j=bs k->j=k
section
variable {w w':World} {base n i L:Nat} {bs cs:Nat->Nat} {R:Nat->Nat->Rat}
theorem gO.nil (w:World) (base n:Nat) (bs cs:Nat->Nat) (R:Nat->Nat->Rat) (L:Nat):gO w base n 0 bs cs R L:=⟨fun j h=>O,fun j h=>O,fun j h=>O,fun j k h=>O⟩
theorem gO.keep0 (h:gO w base n i bs cs R L) (g:w.grownBy w' none):gO w' base n i bs cs R L:=⟨h.low,h.cap,fun j a=>(h.row j a).keep0 g,h.inj⟩
theorem gO.keepB (h:gO w base n i bs cs R L) (g:w.grownBy w' r) (k:aN w w') (hb:∀ j,j<i->some (bs j)≠r) (hn:za w r):gO w' base n i bs cs R L:=⟨h.low,h.cap,fun j a=>(h.row j a).keep g k (hb j a) hn,h.inj⟩
theorem gO.put (h:gO w base n i bs cs R L) (m:base<=g) (o:n<=c) (p:c<=maxLen) (s:dt w g n (R i) L) (f:∀ j,j<i->bs j≠g):gO w base n (i+1) (cZ bs i g) (cZ cs i c) R L:=by
 refine ⟨fun j d=>?_,fun j d=>?_,fun j d=>?_,fun j k d t e=>?_⟩
 ·unfold cZ;split
  ·exact m
  ·exact h.low j O
 ·unfold cZ;split
  ·exact ⟨o,p⟩
  ·exact h.cap j O
 ·unfold cZ;split
  ·rename_i e;rw [e];exact s
  ·exact h.row j O
 ·unfold cZ at e;by_cases l:j=i
  ·rw [if_pos l] at e;by_cases a:k=i
   ·omega
   ·rw [if_neg a] at e;exact absurd e.symm (f k O)
  ·rw [if_neg l] at e;by_cases a:k=i
   ·rw [if_pos a] at e;exact absurd e (f j O)
   ·rw [if_neg a] at e;exact h.inj j k O O e
end
theorem dt.mono {L':Nat} (h:dt w b n R L) (d:L<=L'):dt w b n R L':=by
 obtain ⟨a,e,hb,hc⟩:=h;refine ⟨a,e,hb,fun i hi=>?_⟩;obtain ⟨p,c0,c1⟩:=hc i hi;exact ⟨p,c0,c1.mono d⟩
theorem dt.ne_slice {a:Nat} {x:Option Addr} {l:Nat} (h:dt w b n R L) (hn:0<n) (hc:w.cell? ⟨a,0,none⟩=some (.slice x l c)):b≠a:=by
 intro e;obtain ⟨p,c0,_⟩:=h.at 0 hn;rw [e,hc] at c0;cases c0
theorem da.first {t:TypeId} (h:da (eM n) t w base v (cd bs cs i)) (hi:0<i) {k:Nat} (e:v.ownBlock=some k):∃ a l c,w.cell? ⟨k,0,none⟩=some (.slice a l c):=by
 obtain ⟨p,cap,rfl,_,_,m⟩:=h.1.row;obtain ⟨s,off,f,_,c⟩:=m 0 (by rw [bA];exact hi);rw [f] at e;simp only [Value.ownBlock,zI] at e;rcases h.1.2 with ⟨d,_⟩ | ⟨g,j,o,d,_⟩
 ·rw [f] at d;simp at d
 ·rw [f] at d;simp only [Value.slice.injEq,zI,Addr.mk.injEq] at d;rw [d.1.2.1,Nat.zero_add,e] at c;exact ⟨_,_,_,c⟩
theorem da.noB {t:TypeId} (h:da (eM n) t w base v (cd bs cs i)) (hi:0<i):za w v.ownBlock:=by
 intro k e;obtain ⟨a,l,c,hc⟩:=h.first hi e;exact ⟨_,hc,fun x=>Z⟩
theorem da.ne_prow {k:Nat} {t:TypeId} {Q:Nat->Rat} (h:da (eM n) t w base v (cd bs cs i)) (hi:0<i) (d:dt w b k Q L) (f:0<k):some b≠v.ownBlock:=by
 intro e;obtain ⟨a,l,c,hc⟩:=h.first hi e.symm;exact d.ne_slice f hc rfl
theorem da.pmat {m:Nat} {t:TypeId} {R:Nat->Nat->Rat} (h:da (eM n) t w base v (cd bs cs m)) (p:0<m) (hn:0<n) (d:gO w base n m bs cs R L) :
  ∃ br cap,v=.slice (some ⟨br,0,none⟩) m cap/\base<=br/\m<=cap/\cap<=maxLen/\dr w br m n bs cs R L:=by
 have f:=fun j (hj:j<m)=>h.ne_prow p (d.row j hj) hn
 rcases h.1.2 with ⟨_,s⟩ | ⟨g,cap,a,e,hb,hh,l,u,A,o⟩
 ·rw [bA] at s;omega
 ·rw [bA] at e l o;refine ⟨g,cap,e,hb,l,u,⟨⟨a,t,hh,fun i hi=>?_⟩,d.cap,d.row,d.inj,fun i hi x=>f i hi (by rw [e,x];rfl)⟩⟩;have k:(a.toList.take (m*1))[i]? = ((cd bs cs m).map (eM n))[i]?:=by rw [o]
  rw [List.getElem?_take,if_pos O,Array.getElem?_toList] at k;rw [k];simp [cd,eM,hi]
def bX (R:Nat->Rat) (node:Int) (x:Rat):Nat->Rat:=fun j=>if 0<node/\(j:Int)=node-1 then R j+x else R j
theorem iK (g n cap:Nat) (R:Nat->Rat) (L M:Nat) (node:Int) (a:Nat) (x:Rat) (w:World) (m:dt w g n R L) (o:RX w a x M) (D:0<=node) (E:node<=n) (s:n<=cap) (d:cap<=maxLen) (F:2<=L) (G:L+M<=3900000000000) :
  Calls Tryz.prog 60 #[.slice (some ⟨g,0,none⟩) n cap,.int .i64 node,.pointer (some ⟨a,0,none⟩)] w fun e w'=>e=.returned (.tuple #[])/\dt w' g n (bX R node x) (L+M+3)/\aO w w' g:=by
 have f:=aa m;have H:=aa o;unfold maxLen at d;clear m o;go_enter Tryz.func60,Tryz.ntmps60
 by_cases h0:0<node
 ·obtain ⟨j,hj⟩:∃ j:Nat,node=(j:Int)+1:=⟨(node-1).toNat,O⟩;subst hj;obtain ⟨p,c0,c1,t⟩:=f.out.at j O;have I:=aa c1;have c2:=t j;have Q:(0:Int)<=(j:Int):=O
  have S:(j:Int)<(n:Int):=O
  have hw:IntKind.i64.wrap ((j:Int)+1-1)=(j:Int):=by
   rw [show (j:Int)+1-1=j by omega];exact IntWalk.i64_in _ ⟨O,O⟩
  have T:IntKind.i64.wrap (j:Int)=(j:Int):=IntWalk.i64_in _ ⟨O,O⟩;clear c1 t;go_wp2_with fail;refine (rAdd_at p a _ _ L M w (I.x F) H G).mono ?_;rintro e w1 ⟨q,rfl,u,l,y3⟩;have h:=f.out.keep0 l;obtain ⟨_,d0,_,A⟩:=h.at j O;have U:=A j;obtain ⟨B,C⟩:=(h.mono (show L<=L+M+3 by omega)).set j O (.inl u);have V:=aa B;have W:=aa ((aO.of_gr l).trans C);clear B C h A u l y3;go_wp2;go_end0
  refine ⟨rfl,V.congr (fun k hk=>?_),W⟩;unfold aQ bX;by_cases e:k=j
  ·rw [if_pos e,if_pos ⟨O,O⟩,e]
  ·rw [if_neg e,if_neg O]
 ·have X:node=0:=O
  subst X;have Y:Hid (bX R 0 x=R):=by
   show _=_
   funext j
   unfold bX;rw [if_neg O]
  go_wp2;go_end0
  exact ⟨rfl,by rw [Y];exact (f.mono O),aO.refl _ _⟩
theorem Am (v:ByteArray) (K:Nat) (m:Int) (w:World) (d:v.size<=1000000000) (f:3*v.size+8<=K) (a:w.cell? ⟨2,0,none⟩=some (.int .i64 m)) :
  Calls Tryz.prog 27 #[.string v] w fun e w'=>∃ b,e=.returned (.pointer (some ⟨b,0,none⟩))/\w.grownBy w' none/\w.heap.size<=b/\RV w' b (dh v.data.toList) K:=by
 refine (rOfN_at v m w d a).mono ?_;rintro e w' ⟨b,rfl,g,j,h⟩;exact ⟨b,rfl,g,j,RV.mono (L:=3*v.size+8) h f⟩
def jj (p:aD) (node:Nat):Int:=(if p.a=(node:Int) then 1 else 0)-(if p.b=(node:Int) then 1 else 0)
def dN (N:Nat) (ps:List aD) (node i:Nat):Nat->Rat:=fun u=>if N<=u/\u<N+i then (match ps[u-N]? with | some p=>((jj p node:Int):Rat) | none=>0) else 0
theorem oA (N:Nat) (ps:List aD) (node:Nat):dN N ps node 0=fun _=>0:=by
 funext u
 unfold dN;rw [if_neg O]
theorem iC (N:Nat) (ps:List aD) (node i:Nat) (hi:i<ps.length):aQ (dN N ps node i) (N+i) ((jj ps[i] node:Int):Rat)=dN N ps node (i+1):=by
 funext u
 unfold aQ dN;by_cases e:u=N+i
 ·rw [if_pos e,if_pos O,e,Nat.add_sub_cancel_left,zX hi]
 ·rw [if_neg e];by_cases h:N<=u/\u<N+i
  ·rw [if_pos h,if_pos O]
  ·rw [if_neg h,if_neg O]
def nN (N:Nat) (ps:List aD) (K J O:Nat->Rat) (i:Nat):Nat->Rat :=
 match ps[i]? with
 | none=>fun _=>0
 | some p=>if p.kind=6 then bX (bX (bX (bX (fun _=>0) p.a 1) p.b (-1)) p.c (-(dh p.v.data.toList))) p.d (dh p.v.data.toList)
   else if p.kind=7 then bX (bX (aQ (fun _=>0) (N+i) 1) p.c (-(dh p.v.data.toList))) p.d (dh p.v.data.toList)
   else aQ (aQ (bX (bX (fun _=>0) p.a (K i)) p.b (-(K i))) (N+i) (J i)) (N+ps.length) (O i)
def bC (N:Nat) (ps:List aD) (K J O:Nat->Rat) (j:Nat):Nat->Rat:=if j<N then dN N ps (j+1) ps.length else nN N ps K J O (j-N)
theorem pg (hi:i<ps.length) (h:ps[i].kind=6):bC N ps K J O (N+i)=bX (bX (bX (bX (fun _=>0) ps[i].a 1) ps[i].b (-1)) ps[i].c (-(dh ps[i].v.data.toList))) ps[i].d (dh ps[i].v.data.toList):=by
 unfold bC nN;rw [if_neg (by omega),Nat.add_sub_cancel_left,zX hi];exact if_pos h
theorem ph (hi:i<ps.length) (h:ps[i].kind=7):bC N ps K J O (N+i)=bX (bX (aQ (fun _=>0) (N+i) 1) ps[i].c (-(dh ps[i].v.data.toList))) ps[i].d (dh ps[i].v.data.toList):=by
 unfold bC nN;rw [if_neg (by omega),Nat.add_sub_cancel_left,zX hi];exact (if_neg (by omega)).trans (if_pos h)
theorem pn (hi:i<ps.length) (d:¬ ps[i].kind=6) (e:¬ ps[i].kind=7):bC N ps K J O (N+i)=aQ (aQ (bX (bX (fun _=>0) ps[i].a (K i)) ps[i].b (-(K i))) (N+i) (J i)) (N+ps.length) (O i):=by
 unfold bC nN;rw [if_neg (by omega),Nat.add_sub_cancel_left,zX hi];exact (if_neg d).trans (if_neg e)
namespace Rk
open Nums
section
variable {n:Nat} {W:Nat->Nat->Rat} {s:Nat->Rat} {m:Nat->Nat->Rat} {r c:Nat} {P:Nat->Nat} {perm:List Nat} {b:Nat->Nat}
theorem kK (h:Gj n W s m r c P perm) (hn:0<n) (hb:∀ r,1<=b r) (a:∀ r j,gP (b r) (W r j)) (γ:List Nat) (t:Nat) (e:t<=n):gP (dR n b) (cY W γ (perm.take t).reverse):=by
 have d:=h.pl;have hc:∀ r,1<=n*b r:=fun r=>Nat.mul_pos hn (hb r)
 have:=qd bE W b hb a n hn γ (perm.take t).reverse (by rw [List.length_reverse,List.length_take];omega);refine bE.mono _ _ _ ?_ this;rw [lF];unfold dR;rw [<- h.pp _ hc];exact qw _ hc perm t
theorem A6 (h:Gj n W s m r c P perm) (hn:0<n) (hb:∀ r,1<=b r) (a:∀ r j,gP (b r) (W r j)) (γ:List Nat) (i:Nat) (hi:r<=i) (d:i<n):gP (dR n b) (cY W γ (perm.getD i 0 :: (perm.take r).reverse)):=by
 have e:=h.pl;have hc:∀ r,1<=n*b r:=fun r=>Nat.mul_pos hn (hb r)
 have:=qd bE W b hb a n hn γ (perm.getD i 0 :: (perm.take r).reverse) (by simp only [List.length_cons,List.length_reverse,List.length_take];omega);refine bE.mono _ _ _ ?_ this;unfold dR;rw [<- h.pp _ hc];exact sn _ hc perm r i hi O
theorem yO (h:Gj n W s m r c P perm) (hn:0<n) (hb:∀ r,1<=b r) (a:∀ q,gP (b q) (s q)) (i:Nat) (d:i<n):gP (dR n b) (s (perm.getD i 0)):=by
 have e:=h.pl;have hc:∀ r,1<=n*b r:=fun r=>Nat.mul_pos hn (hb r)
 refine bE.mono _ _ _ ?_ (a _);unfold dR;rw [<- h.pp _ hc];refine Nat.le_trans (Nat.le_mul_of_pos_left _ hn) (sj (fun r=>n*b r) hc perm (dg perm i O))
theorem yF {a d:Rat} (hd:d≠0) (h:q*d=a):q=a / d:=(CQ hd h).symm
theorem gj_fit (h:Gj n W s m r c P perm) (T:∀ q,s q≠0) (hb:∀ r,1<=b r) (p:∀ r j,gP (b r) (W r j)) (hw:∀ q,gP (b q) (s q)) {E:Nat} (t:dR n b<4294967296^E) (i k:Nat) (hi:i<n) (hk:k<=n):bh (3*E) (m i k):=by
 have hn:0<n:=O
 obtain ⟨M,o⟩:=eX (dR n b);have d:1<=M:=by
  rw [o];exact lE _ (fun r=>Nat.mul_pos hn (hb r)) _
 have f:M*M*M<4294967296^(3*E):=by
  rw [show 3*E=E+E+E by omega,Nat.pow_add,Nat.pow_add];rw [<- o] at t;exact Nat.mul_lt_mul'' (Nat.mul_lt_mul'' t t) t
 have G:M<=M*M*M:=Nat.le_trans (Nat.le_mul_of_pos_right M d) (Nat.le_mul_of_pos_right _ d);have H:M*M<=M*M*M:=Nat.le_mul_of_pos_right _ d;have U:∀ {x},gP M x->gP (M*M*M) x:=fun F=>bE.mono _ _ _ G F
 have I:∀ {x y},gP M x->gP M y->gP (M*M*M) (x*y):=fun F hy=>bE.mono _ _ _ H (bE.mul _ _ _ _ F hy)
 have W3:∀ {x y z},gP M x->gP M y->gP M z->gP (M*M*M) (x*y*z):=fun F hy hz=>bE.mul _ _ _ _ (bE.mul _ _ _ _ F hy) hz
 have a:=yO h hn hb hw i hi;rw [<- o] at a;by_cases V:r<=i
 ·have e:=wH h i V hi k;have l:=Nums.iz (h.dnz r zL) (T (perm.getD i 0));have u:=kK h hn hb p (gM P r) r h.red.rn;have A:=A6 h hn hb p (k :: gM P r) i V hi;rw [<- o] at u A;have B:m i k=cY W (k :: gM P r) (perm.getD i 0 :: (perm.take r).reverse) / (cY W (gM P r) (perm.take r).reverse*s (perm.getD i 0)):=yF l (by rw [Rat.mul_comm];exact e);rw [B];exact kM f (U A) (I u a) l
 ·have C:i<r:=O
  have D:=h.red.rn;have e:=h.led i C;have l:=Nums.iz (h.dnz i O) (T (perm.getD i 0));have u:=kK h hn hb p (gM P i) i O;have A:=kK h hn hb p (gM P (i+1)) (i+1) O;rw [<- o] at u A;by_cases hP:∀ j,j<r->P j≠k
  ·obtain ⟨γ,f1,f2⟩:=CR h i C k hk hP;have X:=kK h hn hb p (P i :: γ) r D;have Y:=kK h hn hb p (k :: γ) r D;rw [<- o] at X Y;have e2:m i k*(cY W (gM P i) (perm.take i).reverse*s (perm.getD i 0)*cY W (P i :: γ) (perm.take r).reverse)=cY W (gM P (i+1)) (perm.take (i+1)).reverse*cY W (k :: γ) (perm.take r).reverse:=by
    rw [<- e]
    calc _=(cY W (gM P i) (perm.take i).reverse*s (perm.getD i 0))*(m i k*cY W (P i :: γ) (perm.take r).reverse):=by grind
     _=_:=by rw [f1];grind
   have B:=yF (Nums.iz l f2) e2;rw [B];exact kM f (I A Y) (W3 u a X) (Nums.iz l f2)
  ·have:∃ j,j<r/\P j=k:=by
    apply Classical.byContradiction;intro Q;exact hP fun j hj e=>Q ⟨j,hj,e⟩
   obtain ⟨j,hj,rfl⟩:=this;by_cases ej:i=j
   ·subst ej;have B:=yF l e;rw [B];exact kM f (U A) (I u a) l
   ·rw [h.red.other j hj i hi ej];exact ⟨Nat.pow_pos zD,Nat.lt_of_lt_of_le zD (Nat.le_trans (show 2<=4294967296^1 by decide) (Nat.pow_le_pow_right zD (by
     have:0<E:=by
      rcases zP E with S | S
      ·rw [S,<- o] at t;have:M<1:=t;omega
      ·exact S
     omega)))⟩
end
end Rk
namespace Rk
open Nums
def lc (n:Nat) (P:Nat->Nat):Nat->Nat
 | 0=>0
 | r+1=>lc n P r+if P r<n then 1 else 0
theorem vD {Q:Nat->Nat} : ∀ r,(∀ j,j<r->P j=Q j)->lc n P r=lc n Q r
 | 0,_=>rfl
 | r+1,h=>by rw [lc,lc,h r O,vD r fun j a=>h j O]
theorem lc_le (n:Nat) (P:Nat->Nat):∀ r,lc n P r<=r
 | 0=>zL
 | r+1=>by
  have:=lc_le n P r;rw [lc];split<;>omega
theorem yh : ∀ r,(∀ j,j<r->P j<n)->lc n P r=r
 | 0,_=>rfl
 | r+1,h=>by rw [lc,if_pos (h r O),yh r fun j hj=>h j O]
theorem zH {j:Nat} (hP:¬ P j<n):∀ r,j<r->lc n P r<r
 | 0,h=>absurd h (Nat.not_lt_zero _)
 | r+1,h=>by
  rw [lc];by_cases e:j=r
  ·rw [<- e,if_neg hP];have:=lc_le n P j;omega
  ·have:=zH hP r O;split<;>omega
def fc (m1:Nat->Nat->Rat) (r c i:Nat):Rat:=m1 i c / m1 r c
def xy (m1:Nat->Nat->Rat) (r c i:Nat):Nat->Nat->Rat:=fun x=>if x<i then dM m1 r (fc m1 r c) x else m1 x
def Bx (m1:Nat->Nat->Rat) (r c i k:Nat):Nat->Nat->Rat:=fun x=>if x=i then (fun y=>if y<k then dM m1 r (fc m1 r c) i y else m1 i y) else xy m1 r c i x
theorem vE (m1:Nat->Nat->Rat) (r:Nat) (f:Nat->Rat):dM m1 r f r=m1 r:=by
 funext k
 unfold dM;rw [if_pos rfl]
theorem mxr_zero (m1:Nat->Nat->Rat) (r c:Nat):xy m1 r c 0=m1:=by
 funext x
 unfold xy;rw [if_neg O]
theorem mxr_same {r:Nat} (h:i=r∨m1 i c=0):xy m1 r c (i+1)=xy m1 r c i:=by
 funext x
 unfold xy;by_cases e:x=i
 ·subst e;rw [if_pos O,if_neg O];rcases h with h | h
  ·rw [h];exact vE _ _ _
  ·funext k
   unfold dM;split
   ·rfl
   ·unfold fc;rw [h,Rat.div_def];grind
 ·by_cases a:x<i
  ·rw [if_pos O,if_pos a]
  ·rw [if_neg O,if_neg a]
theorem mxr_r (m1:Nat->Nat->Rat) (r c i:Nat):xy m1 r c i r=m1 r:=by
 unfold xy;split
 ·exact vE _ _ _
 ·rfl
theorem mxr_i (m1:Nat->Nat->Rat) (r c i:Nat):xy m1 r c i i=m1 i:=by
 unfold xy;rw [if_neg O]
theorem mxr_end {r x:Nat} (a:x<n):xy m1 r c n x=dM m1 r (fc m1 r c) x:=by
 unfold xy;rw [if_pos a]
theorem mxk_start {r:Nat} (a:∀ k,k<c->m1 r k=0) (x y:Nat):xy m1 r c i x y=Bx m1 r c i c x y:=by
 unfold Bx;split
 ·rename_i e;subst e;rw [mxr_i];dsimp only
  by_cases hy:y<c
  ·rw [if_pos hy];unfold dM;split
   ·rfl
   ·rw [a y hy];grind
  ·rw [if_neg hy]
 ·rfl
theorem mxk_end {r:Nat} (x y:Nat) (hy:y<n+1):Bx m1 r c i (n+1) x y=xy m1 r c (i+1) x y:=by
 unfold Bx;split
 ·rename_i e;subst e;dsimp only
  rw [if_pos hy];unfold xy;rw [if_pos O]
 ·rename_i e;unfold xy;by_cases a:x<i
  ·rw [if_pos a,if_pos O]
  ·rw [if_neg a,if_neg O]
theorem mxk_put (m1:Nat->Nat->Rat) (r c i k:Nat):Bx m1 r c i (k+1)=fun x=>if x=i then aQ (Bx m1 r c i k i) k (dM m1 r (fc m1 r c) i k) else Bx m1 r c i k x:=by
 funext x
 by_cases e:x=i
 ·subst e;rw [if_pos rfl];funext y
  unfold aQ Bx;rw [if_pos rfl,if_pos rfl];try dsimp only
  by_cases a:y=k
  ·rw [if_pos a,if_pos O,a]
  ·rw [if_neg a];by_cases hy:y<k
   ·rw [if_pos hy,if_pos O]
   ·rw [if_neg hy,if_neg O]
 ·rw [if_neg e];unfold Bx;rw [if_neg e,if_neg e]
theorem mxk_i (m1:Nat->Nat->Rat) (r c i k:Nat):Bx m1 r c i k i k=m1 i k:=by
 unfold Bx;rw [if_pos rfl,if_neg O]
theorem mxk_r {r k:Nat} (h:i≠r):Bx m1 r c i k r=m1 r:=by
 unfold Bx;rw [if_neg (Ne.symm h)];exact mxr_r _ _ _ _
theorem less_at {r k:Nat} (h:i≠r):dM m1 r (fc m1 r c) i k=m1 i k-fc m1 r c i*m1 r k:=by
 unfold dM;rw [if_neg h]
theorem swp_I (m:Nat->Nat->Rat) (r p i:Nat):dX m r p i=m (aP r p i):=by
 unfold dX aP;by_cases d:i=r
 ·by_cases a:i=p
  ·rw [if_pos d,if_pos a];congr 1
   omega
  ·rw [if_pos d,if_neg a,if_pos d]
 ·rw [if_neg d];by_cases a:i=p
  ·rw [if_pos a,if_pos a]
  ·rw [if_neg a,if_neg a,if_neg d]
theorem swp_r (m:Nat->Nat->Rat) (r p:Nat):dX m r p r=m p:=by unfold dX;rw [if_pos rfl]
section
variable {n:Nat} {W:Nat->Nat->Rat} {s:Nat->Rat} {m:Nat->Nat->Rat} {r c p:Nat} {P:Nat->Nat} {perm:List Nat}
theorem gj_col (e:∀ q,s q≠0) (h:Gj n W s m r c P perm) (hc:c<=n) (f:r<=p) (d:p<n) (a:m p c≠0) :
  Gj n W s (dM (dX m r p) r (fc (dX m r p) r c)) (r+1) (c+1) (fun j=>if j=r then c else P j) (dB perm r p) :=
 gj_step e h hc f d a _ fun i hi k=>by
  unfold fc;rw [swp_r];exact A7 _ _ a
theorem col_low (h:Gj n W s m r c P perm) (d:r<=p) (a:p<n):∀ k,k<c->dX m r p r k=0:=fun k e=>by
 rw [swp_r];exact h.red.low p d a k e
theorem lc_col (hc:c<=n):lc n (fun j=>if j=r then c else P j) (r+1)=lc n P r+if c<n then 1 else 0:=by
 rw [lc,if_pos rfl,vD (Q:=P) r fun j a=>if_neg O]
theorem ans_col (h:Gj n W s m r c P perm) (d:r<=p) (a:p<n) (f:Nat->Rat) (y:Nat->Rat):um n (dM (dX m r p) r f) y↔um n m y :=
 (Cv O _ f y).trans (ans_swp O a m y)
theorem gj_end (h:Gj n W s m r c P perm) (t:¬ (c<=n/\r<n)) :
  (lc n P r<r/\∀ y,¬ um n m y)∨(lc n P r=r/\r<n/\∃ y z q,um n m y/\um n m z/\q<n/\y q≠z q)
   ∨ (lc n P r=n/\r=n/\um n m (fun i=>m i n / m i i)/\(∀ y,um n m y->∀ i,i<n->y i=m i n / m i i)/\∀ i,i<n->m i i≠0):=by
 have d:=h.red;have u:=d.rn;have x:=d.cn;by_cases f:∃ j,j<r/\¬ P j<n
 ·obtain ⟨j,f,hP⟩:=f;have:=d.at_ j f;exact .inl ⟨zH hP r f,fun y=>CU d j f O y⟩
 ·have a:∀ j,j<r->P j<n:=fun j l=>by
   apply Classical.byContradiction;intro k;exact f ⟨j,l,k⟩
  by_cases o:r<n
  ·have hc:c=n+1:=O
   rw [hc] at d;exact .inr (.inl ⟨yh r a,o,end_two d a o⟩)
  ·have e:r=n:=O
   subst e;obtain ⟨A,k⟩:=end_one d a;refine .inr (.inr ⟨yh _ a,rfl,A,k,fun i hi=>?_⟩);have p:=d.lead i hi;rw [Fc d a (r-i) i O hi] at p;exact p
end
end Rk
def mx (n:Nat) (y:Nat->Rat) (R:Nat->Rat):Rat:=Rk.sm (fun u=>R u*y u) n-R n
def dJ (y:Nat->Rat) (j:Nat):Rat:=if j=0 then 0 else y (j-1)
theorem yQ : ∀ n,i<n->Rk.sm (fun u=>aQ R i q u*y u) n=Rk.sm (fun u=>R u*y u) n+(q-R i)*y i
 | 0,h=>absurd h (Nat.not_lt_zero _)
 | n+1,h=>by
  rw [Rk.sm,Rk.sm];by_cases e:i=n
  ·subst e;have e2:Rk.sm (fun u=>aQ R i q u*y u) i=Rk.sm (fun u=>R u*y u) i:=Rk.nh i fun u hu=>by
    unfold aQ;rw [if_neg O]
   rw [e2];unfold aQ;rw [if_pos rfl];grind
  ·rw [yQ n O];have e2:aQ R i q n=R n:=by
    unfold aQ;rw [if_neg (fun h=>e h.symm)]
   rw [e2];grind
theorem qI (hi:i<n) (a:R i=0):mx n y (aQ R i q)=mx n y R+q*y i:=by
 unfold mx;rw [yQ n hi,a];have e:aQ R i q n=R n:=by
  unfold aQ;rw [if_neg O]
 rw [e];grind
theorem BV (a:R n=0):mx n y (aQ R n q)=mx n y R-q:=by
 unfold mx;have e:Rk.sm (fun u=>aQ R n q u*y u) n=Rk.sm (fun u=>R u*y u) n:=Rk.nh n fun u d=>by
  unfold aQ;rw [if_neg O]
 rw [e,a];unfold aQ;rw [if_pos rfl];grind
theorem AI (R:Nat->Rat) (node:Nat) (x:Rat):bX R (node:Int) x=if node=0 then R else aQ R (node-1) (R (node-1)+x):=by
 funext j
 unfold bX;by_cases h:node=0
 ·rw [if_pos h,if_neg O]
 ·rw [if_neg h];unfold aQ;by_cases e:j=node-1
  ·rw [if_pos ⟨O,O⟩,if_pos e,e]
  ·rw [if_neg O,if_neg e]
theorem gI {node:Nat} {x:Rat} (h:node<=n):mx n y (bX R (node:Int) x)=mx n y R+x*dJ y node:=by
 rw [AI];unfold dJ;by_cases a:node=0
 ·rw [if_pos a,if_pos a];grind
 ·rw [if_neg a,if_neg a];unfold mx;rw [yQ n O];have e:aQ R (node-1) (R (node-1)+x) n=R n:=by
   unfold aQ;rw [if_neg O]
  rw [e];grind
theorem lH (n:Nat) (y:Nat->Rat):mx n y (fun _=>0)=0:=by
 unfold mx;rw [Rk.pw n fun k _=>by grind];show (0:Rat)-0=0
 grind
theorem pT {node:Int} {x:Rat} {u:Nat} (h:node<=N) (a:N<=u):bX R node x u=R u:=by
 unfold bX;rw [if_neg O]
def dE (ps:List aD) (i:Nat):Rat:=match ps[i]? with | some p=>bP p.kind p.q | none=>0
def dQ (ps:List aD) (i:Nat):Rat:=match ps[i]? with | some p=>bQ p.kind p.q | none=>0
def dZ (ps:List aD) (i:Nat):Rat:=match ps[i]? with | some p=>cL p.kind p.q | none=>0
theorem CH (p:aD) (r:Nat):((jj p r:Int):Rat)=qZ p r:=by
 unfold jj qZ;split<;>split<;>decide +kernel
theorem nP (N:Nat) (ps:List aD) (r:Nat) (y:Nat->Rat):∀ i,i<=ps.length->mx (N+ps.length) y (dN N ps r i)=fG (fun x=>cO ps x r*y (N+x)) i
 | 0,_=>by rw [oA];exact lH _ _
 | i+1,h=>by
  rw [<- iC N ps r i O,qI O (by unfold dN;rw [if_neg O]),nP N ps r y i O,bJ,CH];unfold cO;rw [zX (show i<ps.length by omega)]
theorem sF (x:bS (N+1) ps) (y:Nat->Rat) (i:Nat) (hi:i<ps.length) :
  mx (N+ps.length) y (bC N ps (dE ps) (dQ ps) (dZ ps) (N+i))=bP ps[i].kind ps[i].q*(dJ y ps[i].a.toNat-dJ y ps[i].b.toNat)+cT ps[i].kind ps[i].q*(dJ y ps[i].c.toNat-dJ y ps[i].d.toNat)+bQ ps[i].kind ps[i].q*y (N+i)-cL ps[i].kind ps[i].q:=by
 obtain ⟨C,D,E,F,j,k,l,m,G,H,lc,I⟩:=x.ends _ (List.getElem_mem hi);obtain ⟨p,e⟩:=eX (ps[i]);rw [<- e] at j k l m ⊢;have o:p.q=dh p.v.data.toList:=rfl;by_cases f:p.kind=6
 ·rw [pg hi (by rw [<- e];exact f),<- e,<- o,j,k,l,m,gI O,gI O,gI O,gI O,lH,f];simp only [Int.toNat_natCast,bP,cT,bQ,cL];grind
 ·by_cases h:p.kind=7
  ·rw [ph hi (by rw [<- e];exact h),<- e,<- o,l,m,gI O,gI O,qI O rfl,lH,h];simp only [Int.toNat_natCast,bP,cT,bQ,cL];grind
  ·have s:∀ u,N<=u->bX (bX (fun _=>0) p.a (dE ps i)) p.b (-(dE ps i)) u=0:=fun u t=>by
    rw [pT (N:=N) O t,pT (N:=N) O t]
   have A:aQ (bX (bX (fun _=>0) p.a (dE ps i)) p.b (-(dE ps i))) (N+i) (dQ ps i) (N+ps.length)=0:=by
    unfold aQ;rw [if_neg O];exact s _ O
   rw [pn hi (by rw [<- e];exact f) (by rw [<- e];exact h),<- e,BV A,qI O (s _ O),j,k,gI O,gI O,lH];unfold dE dQ dZ;rw [zX hi,<- e];have B:cT p.kind p.q=0:=by unfold cT;rw [if_neg f,if_neg h]
   rw [B];simp only [Int.toNat_natCast];grind
theorem pq (l:bS (N+1) ps) (y:Nat->Rat):Rk.um (N+ps.length) (bC N ps (dE ps) (dQ ps) (dZ ps)) y↔aE (N+1) ps (dJ y) (fun i=>y (N+i)):=by
 have e:∀ j,j<N+ps.length->(Rk.sm (fun k=>bC N ps (dE ps) (dQ ps) (dZ ps) j k*y k) (N+ps.length)=bC N ps (dE ps) (dQ ps) (dZ ps) j (N+ps.length)↔mx (N+ps.length) y (bC N ps (dE ps) (dQ ps) (dZ ps) j)=0):=fun j _=>by
  unfold mx;constructor
  ·intro h;rw [h];grind
  ·intro h;grind
 have a:∀ j,j<N->bC N ps (dE ps) (dQ ps) (dZ ps) j=dN N ps (j+1) ps.length:=fun j hj=>by
  unfold bC;rw [if_pos hj]
 constructor
 ·intro h;refine ⟨rfl,fun r m o=>?_,fun i hi=>?_⟩
  ·have d:=(e (r-1) O).1 (h (r-1) O);rw [a (r-1) O,show r-1+1=r by omega,nP N ps r y _ zL] at d;exact d
  ·have d:=(e (N+i) O).1 (h (N+i) O);rw [sF l y i hi] at d;grind
 ·intro h j hj;refine (e j hj).2 ?_;by_cases f:j<N
  ·rw [a j f,nP N ps (j+1) y _ zL];exact h.node (j+1) O O
  ·obtain ⟨i,rfl⟩:∃ i,j=N+i:=⟨j-N,O⟩;rw [sF l y i O];have:=h.part i O;grind
theorem lin_0 (v:Rat):lO v 0:=⟨0,0,zD,zD,by simp [Rat.add_zero]⟩
theorem lin_1 (v:Rat):lO v 1:=⟨1,0,zD,zD,by simp [Rat.add_zero]⟩
theorem lin_m (v:Rat):lO v (-1):=⟨-1,0,zD,zD,by simp [Rat.add_zero]⟩
theorem lin_of {v:Rat} (h:q=0∨q=1∨q = -1):lO v q:=by
 rcases h with rfl | rfl | rfl
 ·exact lin_0 v
 ·exact lin_1 v
 ·exact lin_m v
theorem Ei (hi:i<ps.length) (a:¬ ps[i].kind=6) (d:¬ ps[i].kind=7) (j:Nat):lO ps[i].q (bC N ps (dE ps) (dQ ps) (dZ ps) (N+i) j):=by
 rw [pn hi a d];unfold dE dQ dZ;rw [zX hi];simp only;rw [dF];split
 ·exact vC _ _
 ·rw [dF];split
  ·exact vB _ _
  ·unfold bX;rcases tC ps[i].kind ps[i].q with e | e<;>rw [e]
   all_goals
    apply lin_of;repeat' split
    all_goals
     dsimp only
     first
      | (left;grind)
      | (right;left;grind)
      | (right;right;grind)
theorem du (R:Nat->Rat) (n:Int) (x:Rat) (j:Nat):bX R n x j=R j+(if 0<n/\(j:Int)=n-1 then x else 0):=by
 unfold bX;split
 ·rfl
 ·rw [Rat.add_zero]
theorem ref_lin (hi:i<ps.length) (hc:ps[i].c<=N) (hd:ps[i].d<=N) (j:Nat):lO ps[i].q (bC N ps (dE ps) (dQ ps) (dZ ps) (N+i) j):=by
 by_cases e:ps[i].kind=6
 ·rw [pg hi e,du,du,du,du];refine mn (0<ps[i].a/\(j:Int)=ps[i].a-1) (0<ps[i].b/\(j:Int)=ps[i].b-1) (0<ps[i].c/\(j:Int)=ps[i].c-1) (0<ps[i].d/\(j:Int)=ps[i].d-1) (x:=1) (y:=-ps[i].q) (.inr rfl) (.inr rfl) ?_;show _+(if _ then -ps[i].q else 0)+(if _ then ps[i].q else 0)=_
  repeat' split
  all_goals grind
 ·by_cases f:ps[i].kind=7
  ·rw [ph hi f,du,du,dF];by_cases h:j=N+i
   ·rw [if_pos h,if_neg O,if_neg O,Rat.add_zero,Rat.add_zero];exact lin_1 _
   ·rw [if_neg h];refine mn False False (0<ps[i].c/\(j:Int)=ps[i].c-1) (0<ps[i].d/\(j:Int)=ps[i].d-1) (x:=0) (y:=-ps[i].q) (.inl rfl) (.inr rfl) ?_;show _+(if _ then -ps[i].q else 0)+(if _ then ps[i].q else 0)=_
    repeat' split
    all_goals grind
  ·exact Ei hi e f j
theorem qB (N:Nat) (ps:List aD) (e:∀ p∈ps,p.a<=N/\p.b<=N/\p.c<=N/\p.d<=N) (r:Nat):∃ D M:Nat,0<D/\(∀ j,(bC N ps (dE ps) (dQ ps) (dZ ps) r j).den∣D)/\(∀ j,rN (bC N ps (dE ps) (dQ ps) (dZ ps) r j)<=M)/\M*D<=4294967296^cr N ps r/\D<=4294967296^cr N ps r:=by
 by_cases hn:r<N
 ·have f:∀ j,(bC N ps (dE ps) (dQ ps) (dZ ps) r j).den=1/\rN (bC N ps (dE ps) (dQ ps) (dZ ps) r j)<=1:=by
   intro j;unfold bC;rw [if_pos hn];unfold dN;split
   ·split
    ·rename_i p u;unfold jj;by_cases k:p.a=((r+1:Nat):Int)<;>by_cases s:p.b=((r+1:Nat):Int)<;>simp only [k,s,if_true,if_false]<;>exact ⟨rfl,zD⟩
    ·exact ⟨rfl,zD⟩
   ·exact ⟨rfl,zD⟩
  exact ⟨1,1,zD,fun j=>by rw [(f j).1];exact Nat.dvd_refl _,fun j=>(f j).2,by rw [Nat.mul_one];exact Nat.one_le_pow _ _ zD,Nat.one_le_pow _ _ zD⟩
 ·have h:cr N ps r=match ps[r-N]? with | some p=>2*(p.v.size+1)+1 | none=>0:=by unfold cr;rw [if_neg hn];try rfl
  by_cases hi:r-N<ps.length
  ·rw [zX hi] at h;simp only at h;obtain ⟨_,_,t,kd⟩:=e _ (List.getElem_mem hi);have l:=ref_lin (N:=N) hi t kd;rw [show N+(r-N)=r by omega] at l;obtain ⟨f1,o⟩:=ps[r-N].fit;refine ⟨ps[r-N].q.den,ps[r-N].q.den+rN ps[r-N].q,Rat.den_pos _,fun j=>(iy (l j)).1,fun j=>(iy (l j)).2,?_,?_⟩
   ·rw [h];have k:(4294967296:Nat)^(2*(ps[r-N].v.size+1)+1)=(4294967296*4294967296^(ps[r-N].v.size+1))*4294967296^(ps[r-N].v.size+1):=by
     rw [Nat.pow_succ,Nat.two_mul,Nat.pow_add,Nat.mul_comm,Nat.mul_assoc]
    rw [k];exact Nat.mul_le_mul O (Nat.le_of_lt o)
   ·rw [h];exact Nat.le_trans (Nat.le_of_lt o) (Nat.pow_le_pow_right zD O)
  ·have m:∀ j,bC N ps (dE ps) (dQ ps) (dZ ps) r j=0:=by
    intro j;unfold bC nN;rw [if_neg hn,List.getElem?_eq_none O]
   exact ⟨1,1,zD,fun j=>by rw [m];exact Nat.dvd_refl _,fun j=>by rw [m];decide,by rw [Nat.mul_one];exact Nat.one_le_pow _ _ zD,Nat.one_le_pow _ _ zD⟩
theorem ref_out (f:∀ p∈ps,p.a<=N/\p.b<=N/\p.c<=N/\p.d<=N) (r j:Nat) (l:N+ps.length<j):bC N ps (dE ps) (dQ ps) (dZ ps) r j=0:=by
 by_cases hn:r<N
 ·unfold bC;rw [if_pos hn];unfold dN;rw [if_neg (by omega)]
 ·by_cases hi:r-N<ps.length
  ·obtain ⟨m,o,s,t⟩:=f _ (List.getElem_mem hi);by_cases h:ps[r-N].kind=6
   ·have e:=pg (N:=N) (K:=dE ps) (J:=dQ ps) (O:=dZ ps) hi h;rw [show N+(r-N)=r by omega] at e;rw [e,du,du,du,du,if_neg (by omega),if_neg (by omega),if_neg (by omega),if_neg (by omega)];simp only [Rat.add_zero]
   ·by_cases k:ps[r-N].kind=7
    ·have e:=ph (N:=N) (K:=dE ps) (J:=dQ ps) (O:=dZ ps) hi k;rw [show N+(r-N)=r by omega] at e;rw [e,du,du,dF,if_neg (by omega),if_neg (by omega),if_neg (by omega)];simp only [Rat.add_zero]
    ·have e:=pn (N:=N) (K:=dE ps) (J:=dQ ps) (O:=dZ ps) hi h k;rw [show N+(r-N)=r by omega] at e;rw [e,dF,if_neg (by omega),dF,if_neg (by omega)];unfold bX;rw [if_neg (by omega),if_neg (by omega)]
  ·unfold bC nN;rw [if_neg hn,List.getElem?_eq_none (by omega)]
def refA (N:Nat) (ps:List aD) (r j:Nat):Rat:=((jh (bC N ps (dE ps) (dQ ps) (dZ ps) r) (N+ps.length+1):Nat):Rat)*bC N ps (dE ps) (dQ ps) (dZ ps) r j
theorem refA_wh (f:∀ p∈ps,p.a<=N/\p.b<=N/\p.c<=N/\p.d<=N) (r j:Nat):gP (4294967296^cr N ps r) (refA N ps r j):=by
 unfold refA;by_cases h:j<N+ps.length+1
 ·obtain ⟨D,M,k,l,m,o,s⟩:=qB N ps f r;have e:((jh (bC N ps (dE ps) (dQ ps) (dZ ps) r) (N+ps.length+1):Nat):Rat)*bC N ps (dE ps) (dQ ps) (dZ ps) r j=cA (bC N ps (dE ps) (dQ ps) (dZ ps) r) (N+ps.length+1) j:=by unfold cA;exact Rat.mul_comm _ _
  rw [e];exact ⟨nX _ _ _ h,Nat.le_trans (kE _ D M k l m _ j).1 o⟩
 ·rw [ref_out f r j O,Rat.mul_zero];exact ⟨rfl,Nat.zero_le _⟩
theorem refS_wh (e:∀ p∈ps,p.a<=N/\p.b<=N/\p.c<=N/\p.d<=N) (r:Nat):gP (4294967296^cr N ps r) ((jh (bC N ps (dE ps) (dQ ps) (dZ ps) r) (N+ps.length+1):Nat):Rat):=by
 obtain ⟨D,M,f,h,j,k,l⟩:=qB N ps e r;have:=Nat.le_of_dvd f (uB _ D h (N+ps.length+1));exact ⟨Rat.den_natCast _,by unfold rN;rw [Rat.num_natCast,Int.natAbs_natCast];omega⟩
theorem refS_ne (r:Nat):((jh (bC N ps (dE ps) (dQ ps) (dZ ps) r) (N+ps.length+1):Nat):Rat)≠0:=by
 have:=pV (bC N ps (dE ps) (dQ ps) (dZ ps) r) (N+ps.length+1);intro h;have a:=congrArg Rat.num h;rw [Rat.num_natCast] at a;have:(jh (bC N ps (dE ps) (dQ ps) (dZ ps) r) (N+ps.length+1):Int)=0:=a;omega
def nu (w:World) (b:Nat) (T:TypeId) (x y z:Value):Prop:=w.heap[b]? = some (Obj.cells #[x,y,z] T (0,0))
theorem nu.cells {T:TypeId} {x y:Value} (h:nu w b T x y z):w.cell? ⟨b,0,none⟩=some x/\w.cell? ⟨b,1,none⟩=some y/\w.cell? ⟨b,2,none⟩=some z/\w.frozen? ⟨b,0,none⟩=false/\w.frozen? ⟨b,1,none⟩=false/\w.frozen? ⟨b,2,none⟩=false:=by
 unfold nu at h;exact ⟨by simp [World.cell?,h],by simp [World.cell?,h],by simp [World.cell?,h],by simp [World.frozen?,h],by simp [World.frozen?,h],by simp [World.frozen?,h]⟩
theorem nu.setN {T:TypeId} {x y:Value} (h:nu w b T x y z) (f:(∃ p,x=.pointer (some p))∨x=.pointer none) (hy:(∃ p,y=.pointer (some p))∨y=.pointer none) (j:(∃ p,z=.pointer (some p))∨z=.pointer none) (u v s:Value) :
  nu (((w.setCell ⟨b,0,none⟩ u).setCell ⟨b,1,none⟩ v).setCell ⟨b,2,none⟩ s) b T u v s/\aO w (((w.setCell ⟨b,0,none⟩ u).setCell ⟨b,1,none⟩ v).setCell ⟨b,2,none⟩ s) b:=by
 have a:=heap_setCell_same w b 0 _ T u h;have d:=heap_setCell_same _ b 1 _ T v a;have l:=heap_setCell_same _ b 2 _ T s d;refine ⟨l,((aO.set h (fun k e=>?_) u).trans (aO.set a (fun k e=>?_) v)).trans (aO.set d (fun k e=>?_) s)⟩
 ·rcases f with ⟨p,rfl⟩ | rfl<;>simp at e
 ·rcases hy with ⟨p,rfl⟩ | rfl<;>simp at e
 ·rcases j with ⟨p,rfl⟩ | rfl<;>simp at e
def TieV (w:World) (q:aD) (M:Nat) (v:Value):Prop:=∃ a b c,v=.agg #[.pointer (some ⟨a,0,none⟩),.pointer (some ⟨b,0,none⟩),.pointer (some ⟨c,0,none⟩)]/\RV w a (bP q.kind q.q) M/\RV w b (bQ q.kind q.q) M/\RV w c (cL q.kind q.q) M
theorem ye {q:aD} (h:q.kind=1):bP q.kind q.q=1/\bQ q.kind q.q = -(dh q.v.data.toList)/\cL q.kind q.q=0:=by rw [h];exact ⟨by simp [bP],by simp [bQ,aD.q,Rat.sub_eq_add_neg,Rat.zero_add],by simp [cL]⟩
theorem yf {q:aD} (h:q.kind=4):bP q.kind q.q=1/\bQ q.kind q.q=0/\cL q.kind q.q=dh q.v.data.toList:=by rw [h];exact ⟨by simp [bP],by simp [bQ],by simp [cL,aD.q]⟩
theorem yg {q:aD} (h:q.kind=5):bP q.kind q.q=0/\bQ q.kind q.q=1/\cL q.kind q.q=dh q.v.data.toList:=by rw [h];exact ⟨by simp [bP],by simp [bQ],by simp [cL,aD.q]⟩
theorem BY (q:aD) (M:Nat) (ml:Int) (w:World) (h1:q.v.size<=1000000000) (h2:3*q.v.size+10<=M) (hM:M<=100000000000) (hl:w.cell? ⟨2,0,none⟩=some (.int .i64 ml)) :
  Calls Tryz.prog 32 #[.agg #[.int .i64 q.kind,.int .i64 q.a,.int .i64 q.b,.int .i64 q.c,.int .i64 q.d,.string q.v]] w fun e w'=>∃ (v:Value) (ok:Bool),e=.returned (.tuple #[v,.bool ok])/\w.grownBy w' none/\(ok=true↔q.kind=1∨q.kind=4∨q.kind=5)/\(ok=true->TieV w' q M v)/\(ok=false->v=.agg #[.pointer none,.pointer none,.pointer none]):=by
 have hm:=aa hl;obtain ⟨gp,hf⟩:=eX w.heap.size;obtain ⟨gt,X⟩:=eX (w.heap.size+1);obtain ⟨W,hW⟩:=eX ((w.alloc (Obj.cells #[.int .i64 q.kind,.int .i64 q.a,.int .i64 q.b,.int .i64 q.c,.int .i64 q.d,.string q.v] 60)).alloc (Obj.cells #[.pointer none,.pointer none,.pointer none] 73));have GW:Hid (w.grownBy W none):=by rw [hW];exact ae (ae (ag _ _) _) _
 have he:Hid (w.heap.size<=gt):=by show _<=_;omega
 have hj:Hid (gp≠gt):=by show _≠_;omega
 have u:Hid (gt<W.heap.size):=by show _<_;rw [hW,X];simp
 have ML:Hid (∀ wx,W.grownBy wx none->wx.cell? ⟨2,0,none⟩=some (.int .i64 ml)):=fun wx hg=>(ab GW hg).cell hm Z
 have H:Hid (∀ wx,W.grownBy wx none->wx.cell? ⟨gp,5,none⟩=some (.string q.v)):=by
  intro wx hg;rw [hW] at hg;rw [hf];exact hg.cell zG Z
 have S0:Hid (∀ wx,W.grownBy wx none->wx.cell? ⟨gp,0,none⟩=some (.int .i64 q.kind)):=by
  intro wx hg;rw [hW] at hg;rw [hf];exact hg.cell zG Z
 have TB:Hid (∀ wx,W.grownBy wx none->nu wx gt 73 (.pointer none) (.pointer none) (.pointer none)):=by
  intro wx hg;have hh:=heap_alloc_new (w.alloc (Obj.cells #[.int .i64 q.kind,.int .i64 q.a,.int .i64 q.b,.int .i64 q.c,.int .i64 q.d,.string q.v] 60)) (Obj.cells #[.pointer none,.pointer none,.pointer none] 73);have e:(w.alloc (Obj.cells #[.int .i64 q.kind,.int .i64 q.a,.int .i64 q.b,.int .i64 q.c,.int .i64 q.d,.string q.v] 60)).heap.size=gt:=by rw [X];simp
  rw [e] at hh;unfold nu;rw [hg.block gt (by rw [hW,X];simp) Z,hW];exact hh
 have hk:Hid (∀ wx,wx.cell? ⟨2,0,none⟩=some (.int .i64 ml)->Calls Tryz.prog 27 #[.string q.v] wx fun e w'=>∃ b,e=.returned (.pointer (some ⟨b,0,none⟩))/\wx.grownBy w' none/\wx.heap.size<=b/\RV w' b (dh q.v.data.toList) (M-2)):=fun wx h=>Am q.v (M-2) ml wx h1 O h
 go_enter Tryz.func32,Tryz.ntmps32
 go_upto_region 1 with fail;rw [<- X,<- hf,<- hW];have GG:W.grownBy W none:=ag _ _;have s0:=S0.out W GG;have s5:=H.out W GG;clear hW X hf GG;by_cases k1:q.kind=1
 ·have b1:(q.kind==1)=true:=by simp [k1]
  have K1:=aa k1;clear k1;go_upto_region 3 with fail;refine hd (fun w'=>w'.cell? ⟨gp,5,none⟩=some (.string q.v)) (fun hHeld=>?_);refine tk 7 [(1,9,.pointer (some ⟨gp,5,none⟩)),(2,10,.string q.v)] ?_;try simp only [pA,pL,vA,vL,q0,q1,q2,q3]
  have GG:W.grownBy W.drew none:=aX;refine cQ 6 0 (fun K f=>?_);simp only [ax,q4,q5,q6,q7];go_simp
  go_at_call 31
  refine (gS 1 _ O O).mono ?_;rintro e o ⟨D,rfl,p,j,s⟩;have A:Hid (W.heap.size<=D):=Nat.le_trans (gx GG).size s;have k:=ab (gx GG) j;have k0:=H.out o k;have GG:=k;have l:Hid (RV o D (1:Rat) 4):=.inl p;clear p j s k;go_wp2_with fail;refine bk f (fun hHeld=>?_);clear f K;try simp only [pA,pL,vA,vL,q0,q1,q2,q3]
  refine cQ 5 3 (fun K f=>?_);simp only [ax,q4,q5,q6,q7];go_simp
  go_at_call 27
  refine (hk _ (ML _ (gx GG))).mono ?_;rintro e o ⟨bo,rfl,j,s,p⟩;have ho:Hid (W.heap.size<=bo):=Nat.le_trans (gx GG).size s;have k:=ab (gx GG) j;have k0:=H.out o k;have l:=aa (l.keep0 (ab (gx (ag _ _)) j));have GG:=k;have I:=aa p;clear p j s k;go_wp2_with fail;refine bk f (fun hHeld=>?_);clear f K;try simp only [pA,pL,vA,vL,q0,q1,q2,q3]
  refine cQ 4 4 (fun K f=>?_);simp only [ax,q4,q5,q6,q7];go_simp
  go_at_call 62
  refine (mY bo _ (M-2) _ ((I.x O).keep0 (gx (ag _ _))) O).mono ?_;rintro e o ⟨E,rfl,p,j,s⟩;have B:Hid (W.heap.size<=E):=Nat.le_trans (gx GG).size s;have k:=ab (gx GG) j;have k0:=H.out o k;have l:=aa (l.keep0 (ab (gx (ag _ _)) j));have I:=aa (I.keep0 (ab (gx (ag _ _)) j));have GG:=k;have t:Hid (RV o E (-(dh q.v.data.toList)) (M-2+2)):=.inl p;clear p j s k;go_wp2_with fail;refine bk f (fun hHeld=>?_);clear f K;try simp only [pA,pL,vA,vL,q0,q1,q2,q3]
  refine cQ 3 5 (fun K f=>?_);simp only [ax,q4,q5,q6,q7];go_simp
  go_at_call 31
  refine (gS 0 _ O O).mono ?_;rintro e o ⟨G,rfl,p,j,s⟩;have C:Hid (W.heap.size<=G):=Nat.le_trans (gx GG).size s;have k:=ab (gx GG) j;have k0:=H.out o k;have l:=aa (l.keep0 (ab (gx (ag _ _)) j));have I:=aa (I.keep0 (ab (gx (ag _ _)) j));have t:=aa (t.keep0 (ab (gx (ag _ _)) j));have GG:=k;have Q:Hid (RV o G (0:Rat) 4):=.inl p;clear p j s k;go_wp2_with fail;refine bk f (fun hHeld=>?_);clear f K;try simp only [pA,pL,vA,vL,q0,q1,q2,q3]
  refine tk 2 [(6,14,.agg #[.pointer (some ⟨D,0,none⟩),.pointer (some ⟨E,0,none⟩),.pointer (some ⟨G,0,none⟩)])] ?_;try simp only [pA,pL,vA,vL,q0,q1,q2,q3]
  have F:=TB.out o GG;obtain ⟨c0,c1,c2,f0,f1,f2⟩:=nu.cells F;obtain ⟨Y,m⟩:=nu.setN F (.inr rfl) (.inr rfl) (.inr rfl) (.pointer (some ⟨D,0,none⟩)) (.pointer (some ⟨E,0,none⟩)) (.pointer (some ⟨G,0,none⟩));have S:=m.1.cell k0 (fun e=>hj (zJ e));refine cQ 1 7 (fun K f=>?_);simp only [ax,q4,q5,q6,q7];go_simp
  refine bk f (fun hHeld=>?_) (hS:=S);clear f K;try simp only [pA,pL,vA,vL,q0,q1,q2,q3]
  refine cQ 0 8 (fun K f=>?_);simp only [ax,q4,q5,q6,q7];go_simp
  refine bk f (fun hHeld=>?_) (hS:=S);clear f K;try simp only [pA,pL,vA,vL,q0,q1,q2,q3]
  refine wpAnyH_done zK ?_ _;have HG:=aa (iL (ab GW GG) m.1 (fun r e=>by cases e;exact he));have T:=aa (l.keepW m.1 m.2 (fun e=>by have:=zJ e;have:=A.out;have:=u.out;omega));have U:=aa (t.keepW m.1 m.2 (fun e=>by have:=zJ e;have:=B.out;have:=u.out;omega));have V:=aa (Q.keepW m.1 m.2 (fun e=>by have:=zJ e;have:=C.out;have:=u.out;omega));obtain ⟨d0,d1,d2,_⟩:=nu.cells Y;clear F c0 c1 c2 f0 f1 f2 Y m GG S k0;go_wp2;refine bodyPost_ret (v:=.tuple #[.agg #[.pointer (some ⟨D,0,none⟩),.pointer (some ⟨E,0,none⟩),.pointer (some ⟨G,0,none⟩)],.bool true]) (by simp [results,Tryz.results32,go_sem,d0,d1,d2]) rfl ?_;exact ⟨_,_,rfl,HG,by simp [K1.out],fun _=>⟨_,_,_,rfl,by rw [(ye K1).1];exact T.mono O,by rw [(ye K1).2.1];exact U.mono O,by rw [(ye K1).2.2];exact V.mono O⟩,fun h=>by cases h⟩
 ·have b1:(q.kind==1)=false:=by simp [k1]
  have N1:=aa k1;clear k1;by_cases k4:q.kind=4
  ·have b4:(q.kind==4)=true:=by simp [k4]
   have K4:=aa k4;clear k4;go_upto_region 5 with fail;refine hd (fun w'=>w'.cell? ⟨gp,5,none⟩=some (.string q.v)) (fun hHeld=>?_);refine tk 6 [(2,19,.pointer (some ⟨gp,5,none⟩)),(3,20,.string q.v)] ?_;try simp only [pA,pL,vA,vL,q0,q1,q2,q3]
   have GG:W.grownBy W.drew none:=aX;refine cQ 5 0 (fun K f=>?_);simp only [ax,q4,q5,q6,q7];go_simp
   go_at_call 31
   refine (gS 1 _ O O).mono ?_;rintro e o ⟨D,rfl,p,j,s⟩;have A:Hid (W.heap.size<=D):=Nat.le_trans (gx GG).size s;have k:=ab (gx GG) j;have k0:=H.out o k;have GG:=k;have l:Hid (RV o D (1:Rat) 4):=.inl p;clear p j s k;go_wp2_with fail;refine bk f (fun hHeld=>?_);clear f K;try simp only [pA,pL,vA,vL,q0,q1,q2,q3]
   refine cQ 4 1 (fun K f=>?_);simp only [ax,q4,q5,q6,q7];go_simp
   go_at_call 31
   refine (gS 0 _ O O).mono ?_;rintro e o ⟨E,rfl,p,j,s⟩;have B:Hid (W.heap.size<=E):=Nat.le_trans (gx GG).size s;have k:=ab (gx GG) j;have k0:=H.out o k;have l:=aa (l.keep0 (ab (gx (ag _ _)) j));have GG:=k;have t:Hid (RV o E (0:Rat) 4):=.inl p;clear p j s k;go_wp2_with fail;refine bk f (fun hHeld=>?_);clear f K;try simp only [pA,pL,vA,vL,q0,q1,q2,q3]
   refine cQ 3 4 (fun K f=>?_);simp only [ax,q4,q5,q6,q7];go_simp
   go_at_call 27
   refine (hk _ (ML _ (gx GG))).mono ?_;rintro e o ⟨G,rfl,j,s,p⟩;have C:Hid (W.heap.size<=G):=Nat.le_trans (gx GG).size s;have k:=ab (gx GG) j;have k0:=H.out o k;have l:=aa (l.keep0 (ab (gx (ag _ _)) j));have t:=aa (t.keep0 (ab (gx (ag _ _)) j));have GG:=k;have Q:=aa p;clear p j s k;go_wp2_with fail;refine bk f (fun hHeld=>?_);clear f K;try simp only [pA,pL,vA,vL,q0,q1,q2,q3]
   refine tk 2 [(5,22,.agg #[.pointer (some ⟨D,0,none⟩),.pointer (some ⟨E,0,none⟩),.pointer (some ⟨G,0,none⟩)])] ?_;try simp only [pA,pL,vA,vL,q0,q1,q2,q3]
   have F:=TB.out o GG;obtain ⟨c0,c1,c2,f0,f1,f2⟩:=nu.cells F;obtain ⟨Y,m⟩:=nu.setN F (.inr rfl) (.inr rfl) (.inr rfl) (.pointer (some ⟨D,0,none⟩)) (.pointer (some ⟨E,0,none⟩)) (.pointer (some ⟨G,0,none⟩));have S:=m.1.cell k0 (fun e=>hj (zJ e));refine cQ 1 6 (fun K f=>?_);simp only [ax,q4,q5,q6,q7];go_simp
   refine bk f (fun hHeld=>?_) (hS:=S);clear f K;try simp only [pA,pL,vA,vL,q0,q1,q2,q3]
   refine cQ 0 7 (fun K f=>?_);simp only [ax,q4,q5,q6,q7];go_simp
   refine bk f (fun hHeld=>?_) (hS:=S);clear f K;try simp only [pA,pL,vA,vL,q0,q1,q2,q3]
   refine wpAnyH_done zK ?_ _;have HG:=aa (iL (ab GW GG) m.1 (fun r e=>by cases e;exact he));have T:=aa (l.keepW m.1 m.2 (fun e=>by have:=zJ e;have:=A.out;have:=u.out;omega));have U:=aa (t.keepW m.1 m.2 (fun e=>by have:=zJ e;have:=B.out;have:=u.out;omega));have V:=aa (Q.keepW m.1 m.2 (fun e=>by have:=zJ e;have:=C.out;have:=u.out;omega));obtain ⟨d0,d1,d2,_⟩:=nu.cells Y;clear F c0 c1 c2 f0 f1 f2 Y m GG S k0;go_wp2;refine bodyPost_ret (v:=.tuple #[.agg #[.pointer (some ⟨D,0,none⟩),.pointer (some ⟨E,0,none⟩),.pointer (some ⟨G,0,none⟩)],.bool true]) (by simp [results,Tryz.results32,go_sem,d0,d1,d2]) rfl ?_;exact ⟨_,_,rfl,HG,by simp [K4.out],fun _=>⟨_,_,_,rfl,by rw [(yf K4).1];exact T.mono O,by rw [(yf K4).2.1];exact U.mono O,by rw [(yf K4).2.2];exact V.mono O⟩,fun h=>by cases h⟩
  ·have b4:(q.kind==4)=false:=by simp [k4]
   have N4:=aa k4;clear k4;by_cases k5:q.kind=5
   ·have b5:(q.kind==5)=true:=by simp [k5]
    have K5:=aa k5;clear k5;go_upto_region 7 with fail;refine hd (fun w'=>w'.cell? ⟨gp,5,none⟩=some (.string q.v)) (fun hHeld=>?_);refine tk 6 [(2,27,.pointer (some ⟨gp,5,none⟩)),(3,28,.string q.v)] ?_;try simp only [pA,pL,vA,vL,q0,q1,q2,q3]
    have GG:W.grownBy W.drew none:=aX;refine cQ 5 0 (fun K f=>?_);simp only [ax,q4,q5,q6,q7];go_simp
    go_at_call 31
    refine (gS 0 _ O O).mono ?_;rintro e o ⟨D,rfl,p,j,s⟩;have A:Hid (W.heap.size<=D):=Nat.le_trans (gx GG).size s;have k:=ab (gx GG) j;have k0:=H.out o k;have GG:=k;have l:Hid (RV o D (0:Rat) 4):=.inl p;clear p j s k;go_wp2_with fail;refine bk f (fun hHeld=>?_);clear f K;try simp only [pA,pL,vA,vL,q0,q1,q2,q3]
    refine cQ 4 1 (fun K f=>?_);simp only [ax,q4,q5,q6,q7];go_simp
    go_at_call 31
    refine (gS 1 _ O O).mono ?_;rintro e o ⟨E,rfl,p,j,s⟩;have B:Hid (W.heap.size<=E):=Nat.le_trans (gx GG).size s;have k:=ab (gx GG) j;have k0:=H.out o k;have l:=aa (l.keep0 (ab (gx (ag _ _)) j));have GG:=k;have t:Hid (RV o E (1:Rat) 4):=.inl p;clear p j s k;go_wp2_with fail;refine bk f (fun hHeld=>?_);clear f K;try simp only [pA,pL,vA,vL,q0,q1,q2,q3]
    refine cQ 3 4 (fun K f=>?_);simp only [ax,q4,q5,q6,q7];go_simp
    go_at_call 27
    refine (hk _ (ML _ (gx GG))).mono ?_;rintro e o ⟨G,rfl,j,s,p⟩;have C:Hid (W.heap.size<=G):=Nat.le_trans (gx GG).size s;have k:=ab (gx GG) j;have k0:=H.out o k;have l:=aa (l.keep0 (ab (gx (ag _ _)) j));have t:=aa (t.keep0 (ab (gx (ag _ _)) j));have GG:=k;have Q:=aa p;clear p j s k;go_wp2_with fail;refine bk f (fun hHeld=>?_);clear f K;try simp only [pA,pL,vA,vL,q0,q1,q2,q3]
    refine tk 2 [(5,30,.agg #[.pointer (some ⟨D,0,none⟩),.pointer (some ⟨E,0,none⟩),.pointer (some ⟨G,0,none⟩)])] ?_;try simp only [pA,pL,vA,vL,q0,q1,q2,q3]
    have F:=TB.out o GG;obtain ⟨c0,c1,c2,f0,f1,f2⟩:=nu.cells F;obtain ⟨Y,m⟩:=nu.setN F (.inr rfl) (.inr rfl) (.inr rfl) (.pointer (some ⟨D,0,none⟩)) (.pointer (some ⟨E,0,none⟩)) (.pointer (some ⟨G,0,none⟩));have S:=m.1.cell k0 (fun e=>hj (zJ e));refine cQ 1 6 (fun K f=>?_);simp only [ax,q4,q5,q6,q7];go_simp
    refine bk f (fun hHeld=>?_) (hS:=S);clear f K;try simp only [pA,pL,vA,vL,q0,q1,q2,q3]
    refine cQ 0 7 (fun K f=>?_);simp only [ax,q4,q5,q6,q7];go_simp
    refine bk f (fun hHeld=>?_) (hS:=S);clear f K;try simp only [pA,pL,vA,vL,q0,q1,q2,q3]
    refine wpAnyH_done zK ?_ _;have HG:=aa (iL (ab GW GG) m.1 (fun r e=>by cases e;exact he));have T:=aa (l.keepW m.1 m.2 (fun e=>by have:=zJ e;have:=A.out;have:=u.out;omega));have U:=aa (t.keepW m.1 m.2 (fun e=>by have:=zJ e;have:=B.out;have:=u.out;omega));have V:=aa (Q.keepW m.1 m.2 (fun e=>by have:=zJ e;have:=C.out;have:=u.out;omega));obtain ⟨d0,d1,d2,_⟩:=nu.cells Y;clear F c0 c1 c2 f0 f1 f2 Y m GG S k0;go_wp2;refine bodyPost_ret (v:=.tuple #[.agg #[.pointer (some ⟨D,0,none⟩),.pointer (some ⟨E,0,none⟩),.pointer (some ⟨G,0,none⟩)],.bool true]) (by simp [results,Tryz.results32,go_sem,d0,d1,d2]) rfl ?_;exact ⟨_,_,rfl,HG,by simp [K5.out],fun _=>⟨_,_,_,rfl,by rw [(yg K5).1];exact T.mono O,by rw [(yg K5).2.1];exact U.mono O,by rw [(yg K5).2.2];exact V.mono O⟩,fun h=>by cases h⟩
   ·have b5:(q.kind==5)=false:=by simp [k5]
    have N5:=aa k5;clear k5;have F:=TB.out _ (ag W _);obtain ⟨c0,c1,c2,f0,f1,f2⟩:=nu.cells F;obtain ⟨Y,m⟩:=nu.setN F (.inr rfl) (.inr rfl) (.inr rfl) (.pointer none) (.pointer none) (.pointer none);have HG:=aa (iL GW m.1 (fun r e=>by cases e;exact he));obtain ⟨d0,d1,d2,_⟩:=nu.cells Y;clear F Y m;go_wp2;refine bodyPost_ret (v:=.tuple #[.agg #[.pointer none,.pointer none,.pointer none],.bool false]) (by simp [results,Tryz.results32,go_sem,d0,d1,d2]) rfl ?_;exact ⟨_,_,rfl,HG,by simp [N1.out,N4.out,N5.out],fun h=>(by cases h),fun _=>rfl⟩
attribute [local simp] Pc6 Pb6
theorem nu.keep0 {T:TypeId} {x y:Value} (h:nu w b T x y z) (g:w.grownBy w' none):nu w' b T x y z:=by
 have a:b<w.heap.size:=(zZ h).1;unfold nu at h ⊢;rw [g.block b a Z,h]
theorem sE {a:Nat} {T:TypeId} {p:Option Addr} {y:Value} (h:RV w a q L) (k:nu w g T (.pointer p) y z):a≠g:=by
 rintro rfl;obtain ⟨x,c⟩:=h.bool;rw [k.cells.1] at c;simp at c
theorem ze (w:World) (T:TypeId) (x y z:Value):nu (w.alloc (Obj.cells #[x,y,z] T)) w.heap.size T x y z:=heap_alloc_new _ _
theorem lawV_2 {q:aD} (h:q.kind=2):bP q.kind q.q=1/\bQ q.kind q.q=0/\cL q.kind q.q=0:=by rw [h];exact ⟨by simp [bP],by simp [bQ],by simp [cL]⟩
theorem lawV_3 {q:aD} (h:q.kind=3):bP q.kind q.q=0/\bQ q.kind q.q=1/\cL q.kind q.q=0:=by rw [h];exact ⟨by simp [bP],by simp [bQ],by simp [cL]⟩
theorem B0 (q:aD) (i M:Nat) (ml:Int) (w:World) (hq:q.kind=2∨q.kind=3∨q.kind=1∨q.kind=4∨q.kind=5) (h1:q.v.size<=1000000000) (u:3*q.v.size+10<=M) (hM:M<=100000000000) (A:w.cell? ⟨2,0,none⟩=some (.int .i64 ml)) :
  Calls Tryz.prog 8 #[.int .i64 (i:Nat),.agg #[.int .i64 q.kind,.int .i64 q.a,.int .i64 q.b,.int .i64 q.c,.int .i64 q.d,.string q.v]] w fun e w'=>∃ v,e=.returned v/\w.grownBy w' none/\TieV w' q M v:=by
 have HQ:=aa hq;have he:=aa A;clear hq A;obtain ⟨gp,t⟩:=eX w.heap.size;obtain ⟨m,o⟩:=eX (w.heap.size+1);obtain ⟨W,x⟩:=eX ((w.alloc (Obj.cells #[.int .i64 q.kind,.int .i64 q.a,.int .i64 q.b,.int .i64 q.c,.int .i64 q.d,.string q.v] 60)).alloc (Obj.cells #[.pointer none,.pointer none,.pointer none] 73));have GW:Hid (w.grownBy W none):=by rw [x];exact ae (ae (ag _ _) _) _
 have B:Hid (w.heap.size<=m):=by show _<=_;omega
 have hj:Hid (m<W.heap.size):=by show _<_;rw [x,o];simp
 have PB:Hid (Pb6 W gp q):=by rw [t];exact Ah w q 60 (by rw [x];exact ae (ag _ _) _)
 have C:Hid (nu W m 73 (.pointer none) (.pointer none) (.pointer none)):=by
  have hh:=ze (w.alloc (Obj.cells #[.int .i64 q.kind,.int .i64 q.a,.int .i64 q.b,.int .i64 q.c,.int .i64 q.d,.string q.v] 60)) 73 (.pointer none) (.pointer none) (.pointer none);rw [World.size_alloc,<- o,<- x] at hh;exact hh
 go_enter Tryz.func8,Tryz.ntmps8
 go_upto_region 1 with fail;rw [<- o,<- t,<- x];clear x o t;obtain ⟨X,b1,b2,b3,b4,b5⟩:=PB.out;go_wp2_with fail;refine (BY q M ml W h1 u hM (GW.cell he Z)).mono ?_;rintro e w5 ⟨v,ok,rfl,g5,G,ht,hf⟩;have s:=aa g5;have OK:=aa G;clear g5 G X b1 b2 b3 b4 b5;cases ok with
 | true =>
  obtain ⟨a,b,c,rfl,r1,r2,r3⟩:=ht rfl;have R1:=aa r1;have R2:=aa r2;have R3:=aa r3;clear ht hf r1 r2 r3;go_upto_region 3 with fail;refine eO (fun Y=>w5.grownBy Y none/\nu Y w5.heap.size 73 (.pointer (some ⟨a,0,none⟩)) (.pointer (some ⟨b,0,none⟩)) (.pointer (some ⟨c,0,none⟩))) ⟨ae (ag _ _) _,ze ..⟩ ?_;rintro w6 ⟨g6,b6⟩;obtain ⟨gs,H⟩:=eX w5.heap.size;rw [<- H] at b6 ⊢;have hk:=s.out.size;have l1:=hj.out;have j:Hid (a≠m/\b≠m/\c≠m):=⟨sE R1 (C.keep0 s),sE R2 (C.keep0 s),sE R3 (C.keep0 s)⟩;clear H hk l1;have l:=C.out.keep0 (ab s g6);obtain ⟨c0,c1,c2,f0,f1,f2⟩:=l.cells;obtain ⟨x0,x1,x2,_⟩:=b6.cells;obtain ⟨I,f⟩:=l.setN (.inr rfl) (.inr rfl) (.inr rfl) (.pointer (some ⟨a,0,none⟩)) (.pointer (some ⟨b,0,none⟩)) (.pointer (some ⟨c,0,none⟩));have S:=aa (iL (ab GW (ab s g6)) f.1 (fun r e=>by cases e;exact B));have T:=aa ((R1.keep0 g6).keepW f.1 f.2 (fun e=>j.1 (zJ e)));have U:=aa ((R2.keep0 g6).keepW f.1 f.2 (fun e=>j.2.1 (zJ e)));have V:=aa ((R3.keep0 g6).keepW f.1 f.2 (fun e=>j.2.2 (zJ e)));obtain ⟨d0,d1,d2,_⟩:=I.cells;clear l b6 g6 I f;go_wp2;refine bodyPost_ret (v:=.agg #[.pointer (some ⟨a,0,none⟩),.pointer (some ⟨b,0,none⟩),.pointer (some ⟨c,0,none⟩)]) (by simp [results,Tryz.results8,go_sem,d0,d1,d2]) rfl ?_;exact ⟨_,rfl,S,a,b,c,rfl,T,U,V⟩
 | false =>
  have:=hf rfl;subst this;clear ht hf;have K8:Hid (q.kind=2∨q.kind=3):=by
   have hn:¬ (q.kind=1∨q.kind=4∨q.kind=5):=fun h=>by have:=OK.out.2 h;cases this
   rcases HQ.out with h | h | h
   ·exact .inl h
   ·exact .inr h
   ·exact absurd h hn
  go_upto_region 4 with fail;refine eO (fun Y=>W.grownBy Y none) (ae s _) ?_;intro w6 g6;have G6:=aa g6;obtain ⟨X,_⟩:=PB.out.k0 g6;clear g6;by_cases u:q.kind=2
  all_goals
   have HK:=aa u;first | rw [u] at X | have hl:(q.kind==2)=false:=by simpa using u
   clear u;go_wp2_with fail;refine (gS _ w6 O O).mono ?_;rintro e wa ⟨a,rfl,p,k,Q⟩;have GA:=aa (ab G6 k);have RA:=aa (show RV wa a _ 4 from .inl p);clear p k Q X;go_wp2_with fail;refine (gS _ wa O O).mono ?_;rintro e wb ⟨b,rfl,p,k,Q⟩;have GB:=aa (ab GA k);have D:=aa (RA.keep0 k);have RB:=aa (show RV wb b _ 4 from .inl p);clear p k Q RA GA;go_wp2_with fail;refine (gS _ wb O O).mono ?_;rintro e wc ⟨c,rfl,p,k,Q⟩;have GC:=aa (ab GB k);have E:=aa (D.keep0 k);have F:=aa (RB.keep0 k);have RC:=aa (show RV wc c _ 4 from .inl p);clear p k Q D RB GB;have l:=C.out.keep0 GC;have j:Hid (a≠m/\b≠m/\c≠m):=⟨sE E l,sE F l,sE RC l⟩;obtain ⟨c0,c1,c2,f0,f1,f2⟩:=l.cells;obtain ⟨I,f⟩:=l.setN (.inr rfl) (.inr rfl) (.inr rfl) (.pointer (some ⟨a,0,none⟩)) (.pointer (some ⟨b,0,none⟩)) (.pointer (some ⟨c,0,none⟩));have S:=aa (iL (ab GW GC) f.1 (fun r e=>by cases e;exact B));have T:=aa ((E.keepW f.1 f.2 (fun e=>j.1 (zJ e))).mono (by omega:4<=M));have U:=aa ((F.keepW f.1 f.2 (fun e=>j.2.1 (zJ e))).mono (by omega:4<=M));have V:=aa ((RC.keepW f.1 f.2 (fun e=>j.2.2 (zJ e))).mono (by omega:4<=M));obtain ⟨d0,d1,d2,_⟩:=I.cells;clear l I f;go_wp2;refine bodyPost_ret (v:=.agg #[.pointer (some ⟨a,0,none⟩),.pointer (some ⟨b,0,none⟩),.pointer (some ⟨c,0,none⟩)]) (by simp [results,Tryz.results8,go_sem,d0,d1,d2]) rfl ?_
  ·obtain ⟨e1,e2,e3⟩:=lawV_2 HK;exact ⟨_,rfl,S,a,b,c,rfl,by rw [e1];exact T,by rw [e2];exact U,by rw [e3];exact V⟩
  ·obtain ⟨e1,e2,e3⟩:=lawV_3 (K8.resolve_left HK);exact ⟨_,rfl,S,a,b,c,rfl,by rw [e1];exact T,by rw [e2];exact U,by rw [e3];exact V⟩
theorem wL (b:Nat) (q:Rat) (L:Nat) (w:World) (h:RV w b q L):Calls Tryz.prog 28 #[.pointer (some ⟨b,0,none⟩)] w fun e w'=>e=.returned (.int .i64 (oI q.num))/\w'=w:=by
 rcases h with h | ⟨rfl,h⟩
 ·exact mw b q.num L w h.1
 ·exact mw b 0 L w h.1
theorem m8 : oI q.num=0↔q=0:=by
 unfold oI;constructor
 ·intro h;apply Rat.num_eq_zero.1;split at h
  ·cases h
  ·split at h
   ·cases h
   ·omega
 ·intro h;rw [h];rfl
def pfV (b:Nat):Value:=.pointer (some ⟨b,0,none⟩)
abbrev mD (w:World) (base:Nat) (v:Value) (xs:List Nat):Prop:=da pfV 37 w base v xs
theorem mD.noB {xs:List Nat} (h:mD w base v xs) (f:0<xs.length):za w v.ownBlock:=by
 intro k a;rcases h.1.2 with ⟨rfl,j⟩ | ⟨g,cap,d,rfl,hb,hh,j,m,o,l⟩
 ·simp [Value.ownBlock] at a
 ·simp only [Value.ownBlock,zI] at a;subst a;have e:(d.toList.take (xs.length*1))[0]? = (xs.map pfV)[0]?:=by rw [l]
  rw [List.getElem?_take,if_pos O,List.getElem?_map,zX f,Array.getElem?_toList] at e;refine ⟨pfV xs[0],?_,fun x=>by simp [pfV]⟩;simp only [World.cell?,hh];simpa using e
theorem mD.low {base':Nat} {xs:List Nat} (h:mD w base v xs) (hb:base'<=base):mD w base' v xs:=by
 refine ⟨⟨h.1.1,?_⟩,h.2⟩;rcases h.1.2 with d | ⟨g,cap,a,e,f,j⟩
 ·exact .inl d
 ·exact .inr ⟨g,cap,a,e,Nat.le_trans hb f,j⟩
def RkO (W0:World) (n:Nat) (A:Nat->Nat->Rat) (s:Nat->Rat) (m0:Nat->Nat->Rat) (br L:Nat) (v4 v5 v7 v8:Value) (wr:World):Prop :=
 ∃ (r c a:Nat) (P:Nat->Nat) (perm:List Nat) (m:Nat->Nat->Rat) (bs cs:Nat->Nat),v4=.int .i64 a/\v5=.int .i64 r/\v7=.int .i64 r/\v8=.int .i64 c/\a=Rk.lc n P r/\Rk.Gj n A s m r c P perm/\(∀ y,Rk.um n m y↔Rk.um n m0 y)
  /\ dr wr br n (n+1) bs cs m L/\W0.grownBy wr none/\∀ i,i<n->W0.heap.size<=bs i
def RkL (W1:World) (m:Nat->Nat->Rat) (n r c:Nat) (v:Value) (wr:World):Prop:=∃ p,r<=p/\p<=n/\v=.int .i64 (p:Nat)/\(∀ i,r<=i->i<p->m i c=0)/\wr=W1
def RkI (W0:World) (n br L:Nat) (bs cs:Nat->Nat) (m1:Nat->Nat->Rat) (r c:Nat) (v:Value) (wr:World):Prop:=∃ i,i<=n/\v=.int .i64 (i:Nat)/\dr wr br n (n+1) bs cs (Rk.xy m1 r c i) L/\W0.grownBy wr none
def RkK (W0:World) (n br L:Nat) (bs cs:Nat->Nat) (m1:Nat->Nat->Rat) (r c i fq:Nat) (v:Value) (wr:World):Prop :=
 ∃ k,c<=k/\k<=n+1/\v=.int .i64 (k:Nat)/\dr wr br n (n+1) bs cs (Rk.Bx m1 r c i k) L/\RV wr fq (Rk.fc m1 r c i) (L+L+2)/\W0.grownBy wr none
def RkX (W2:World) (n:Nat) (m:Nat->Nat->Rat) (L:Nat) (v v13:Value) (wr:World):Prop :=
 ∃ (i:Nat) (xs:List Nat),i<=n/\v13=.int .i64 i/\xs.length=i/\mD wr W2.heap.size v xs/\(∀ j (h:j<xs.length),RV wr xs[j] (m j n / m j j) (L+L+2))/\W2.grownBy wr none
def RkE (W0:World) (n:Nat) (m0:Nat->Nat->Rat) (L:Nat) (e:Ending) (w':World):Prop :=
 ∃ (a b:Nat) (v:Value),e=.returned (.tuple #[.int .i64 a,.int .i64 b,v])/\W0.grownBy w' none
  /\ ((a<b/\∀ y,¬ Rk.um n m0 y)∨(a=b/\a<n/\∃ y z q,Rk.um n m0 y/\Rk.um n m0 z/\q<n/\y q≠z q)
   ∨ (a=n/\b=n/\∃ (y:Nat->Rat) (xs:List Nat),Rk.um n m0 y/\(∀ z,Rk.um n m0 z->∀ i,i<n->z i=y i)/\xs.length=n/\mD w' W0.heap.size v xs/\∀ j (h:j<xs.length),RV w' xs[j] (y j) (L+L+2)))
theorem zx {a:World} (h:a.grownBy w none) (k:w.grownBy w' (some b)) (hb:a.heap.size<=b):a.grownBy w' none:=aj h k (fun _ _ e=>e) (fun c hc e=>by cases e;omega)
theorem dr.set_some {a m:Nat} {R:Nat->Nat->Rat} (h:dr w a m n bs cs R L) {j:Nat} (f:j<m) (v:Value):∃ u,(w.setCell ⟨a,i,none⟩ v).cell? ⟨a,j,none⟩=some u:=by
 obtain ⟨d,e,hb,hc⟩:=h.top;have:=heap_setCell_same w a i d e v hb;simp only [World.cell?,this];exact ⟨_,Array.getElem?_eq_getElem (by simpa using (zZ (hc j f)).1)⟩
theorem BP (n o cm E:Nat) (A:Nat->Nat->Rat) (s:Nat->Rat) (b:Nat->Nat) (m0:Nat->Nat->Rat) (hF hQ:Nat->Nat) (X w:World) (hn:0<n) (yn:n<=1000) (hs:∀ q,s q≠0) (hb:∀ r,1<=b r) (hA:∀ r j,gP (b r) (A r j)) (hw:∀ q,gP (b q) (s q))
  (hE:dR n b<4294967296^E) (hE1:1<=E) (hE2:E<=100000000000) (hst:∀ i,i<n->∀ k,s i*m0 i k=A i k) (hg:X.grownBy w none) (hbr:X.heap.size<=o) (hbs:∀ i,i<n->X.heap.size<=hF i) (hm:dr w o n (n+1) hF hQ m0 (3*E)) :
  Calls Tryz.prog 30 #[.slice (some ⟨o,0,none⟩) n cm,.int .i64 n] w fun e w'=>RkE X n m0 (3*E) e w':=by
 have hR:Hid (∀ {m:Nat->Nat->Rat} {r c:Nat} {P:Nat->Nat} {perm:List Nat},Rk.Gj n A s m r c P perm->∀ i k,i<n->k<=n->bh (3*E) (m i k)):=fun h i k hi hk=>Rk.gj_fit h hs hb hA hw hE i k hi hk
 have HS:=aa hs;obtain ⟨L,hL⟩:=eX (3*E);rw [<- hL] at hR hm ⊢;have yo:3<=L:=O
 have yv:L<=300000000000:=O
 have HM:=aa hm;have HG:=aa hg;have hS:=aa hbs;have hT:=aa hst;clear hs hb hA hw hE hL hm hg hbs hst;go_enter Tryz.func30,Tryz.ntmps30
 go_wp2;go_loopw [4,5,7,8] (fun v4 v5 v7 v8 wr=>Hid (RkO X n A s m0 o L v4 v5 v7 v8 wr)) (fun _ _ _ v8 _=>n+1-(intOf v8).toNat)
 case atStart=>exact ⟨0,0,0,fun _=>0,List.range n,m0,hF,hQ,rfl,rfl,rfl,rfl,rfl,Rk.gj_start _ hT,fun _=>Iff.rfl,HM,HG,hS⟩
 case round =>
  obtain ⟨r,c,a,P,perm,m,bs,cs,rfl,rfl,rfl,rfl,ha,g,an,pm,gr,b1⟩:=hrel.out;have I:=aa ha;have ky:a<=r:=by rw [ha];exact Rk.lc_le n P r
  have G:=aa g;have AN:=aa an;have Q:=aa pm;have GR:=aa gr;have B1:=aa b1;have jc:r<=n:=g.red.rn;have qo:c<=n+1:=g.red.cn;clear ha g an pm gr b1 hrel HM HG hS hT;obtain ⟨U,hp⟩:=eX wr;subst hp;by_cases C:c<=n/\r<n
  ·obtain ⟨hc,hr⟩:=C;go_wp2;go_loopw [9] (fun v wr=>Hid (RkL U m n r c v wr)) (fun v _=>n-(intOf v).toNat)
   case atStart=>exact ⟨r,zL,O,rfl,fun i h1 h2=>O,rfl⟩
   case round =>
    obtain ⟨p,hI,md,rfl,hz,rfl⟩:=hrel.out;have HZ:=aa hz;clear hz hrel;obtain ⟨U,hp⟩:=eX wr;subst hp;have jl:(0:Int)<=(c:Int):=O
    have qq:(c:Int)<(n:Int)+1:=O
    by_cases D:p<n
    ·obtain ⟨ct,cf⟩:=Q.out.cell p D;obtain ⟨q,c0,c1,_⟩:=(Q.row p D).at c O;have C1:=aa c1;have jo:(0:Int)<=(p:Int):=O
     have qs:(p:Int)<(n:Int):=O
     clear c1;go_wp2_with fail;refine (wL q _ _ _ C1).mono ?_;rintro e w' ⟨rfl,rfl⟩;obtain ⟨U,hp⟩:=eX w';subst hp;by_cases S:m p c=0
     ·have B:oI (m p c).num=0:=m8.2 S;rw [B];have kz:Hid (∀ i,r<=i->i<p+1->m i c=0):=by
       intro i h1 h2;by_cases e:i=p
       ·rw [e];exact S
       ·exact HZ i h1 O
      clear S B HZ;go_wp2;go_roundw
      case rel=>exact ⟨p+1,O,O,zN,kz,rfl⟩
      case measure=>exact bO
     ·have B:(oI (m p c).num==0)=false:=by
       rw [beq_eq_false_iff_ne];exact fun e=>S (m8.1 e)
      obtain ⟨sg,F⟩:=eX (oI (m p c).num);rw [<- F] at B ⊢;have H0:=aa S;have hW:(((p:Nat):Int)==((n:Nat):Int))=false:=by rw [beq_eq_false_iff_ne];omega
      obtain ⟨rt,rf⟩:=Q.out.cell r hr;have kF:=cf p;have kH:=cf r;have jp:(0:Int)<=(r:Int):=O
      have ya:(r:Int)<(n:Int):=O
      obtain ⟨u1,ql⟩:=Q.out.set_some (i:=r) D (.slice (some ⟨bs p,0,none⟩) (n+1) (cs p));clear S F c0 cf rf HZ C1;go_upto_region 9 with fail;go_region
      obtain ⟨t1,t2⟩:=Q.out.swap hr D;obtain ⟨w5,hB⟩:=eX ((U.setCell ⟨o,r,none⟩ (.slice (some ⟨bs p,0,none⟩) (n+1) (cs p))).setCell ⟨o,p,none⟩ (.slice (some ⟨bs r,0,none⟩) (n+1) (cs r)));obtain ⟨m1,M⟩:=eX (Rk.dX m r p);obtain ⟨d,hu⟩:∃ f:Nat->Nat,f=fun i=>bs (aP r p i):=⟨_,rfl⟩
      obtain ⟨l,hD⟩:∃ f:Nat->Nat,f=fun i=>cs (aP r p i):=⟨_,rfl⟩
      rw [<- hB,<- hu,<- hD] at t1;rw [<- hB] at t2;have M5:Hid (dr w5 o n (n+1) d l m1 L):=by
       show dr ..
       rw [M,show Rk.dX m r p=fun i=>m (aP r p i) from funext (Rk.swp_I m r p)];exact t1
      have hX:Hid (X.grownBy w5 none):=zx GR t2.1 hbr;have B5:Hid (∀ i,i<n->X.heap.size<=d i):=by
       intro i hi;rw [hu];exact B1 _ (dA hr D hi)
      have hY:Hid (m1 r c≠0):=by rw [M,Rk.swp_r];exact H0
      have hC:Hid (∀ k,k<c->m1 r k=0):=by rw [M];exact Rk.col_low G hI D
      have GN:Hid (Rk.Gj n A s (Rk.dM m1 r (Rk.fc m1 r c)) (r+1) (c+1) (fun j=>if j=r then c else P j) (dB perm r p)):=by rw [M];exact Rk.gj_col HS G hc hI D H0
      have ka:Hid (∀ y,Rk.um n (Rk.dM m1 r (Rk.fc m1 r c)) y↔Rk.um n m0 y):=by
       intro y;rw [M];exact (Rk.ans_col G hI D _ y).trans (AN y)
      have FN:Hid (∀ i k,i<n->k<=n->bh L (Rk.dM m1 r (Rk.fc m1 r c) i k)):=hR.out GN;rw [<- hB];clear hB M hu hD t1 t2 kF kH u1 ql ct rt Q GR B1 G AN H0 B hW;go_wp2;go_loopw [63] (fun v wr=>Hid (RkI X n o L d l m1 r c v wr)) (fun v _=>n-(intOf v).toNat)
      case atStart=>exact ⟨0,O,rfl,by rw [Rk.mxr_zero];exact M5.keep0 zE,ab hX zE⟩
      case round =>
       obtain ⟨i,hi,rfl,k1,k2⟩:=hrel.out;have T:=aa k1;have K2:=aa k2;clear k1 k2 hrel M5 hX;obtain ⟨w7,hM⟩:=eX wr;subst hM;by_cases t:i<n
       ·have kN:(0:Int)<=(i:Int):=O
        have kb:(i:Int)<(n:Int):=O
        by_cases Y:i=r
        ·have kc:(((i:Nat):Int)==((r:Nat):Int))=true:=by simp [Y]
         have KS:Hid (dr w7 o n (n+1) d l (Rk.xy m1 r c (i+1)) L):=by rw [Rk.mxr_same (.inl Y)];exact T
         clear Y T;go_wp2;go_roundw
         case rel=>exact ⟨i+1,O,zN,KS,K2⟩
         case measure=>exact bO
        ·have kc:(((i:Nat):Int)==((r:Nat):Int))=false:=by rw [beq_eq_false_iff_ne];omega
         have ke:=aa Y;clear Y;obtain ⟨it,_⟩:=T.out.cell i t;obtain ⟨qa,c0,c1,_⟩:=(T.row i t).at c O;rw [Rk.mxr_i] at c1;have C1:=aa c1;clear c1;go_wp2_with fail;refine (wL qa _ _ _ C1).mono ?_;rintro e w' ⟨rfl,rfl⟩;obtain ⟨w7,hM⟩:=eX w';subst hM;by_cases S:m1 i c=0
         ·have B:oI (m1 i c).num=0:=m8.2 S;have KS:Hid (dr w7 o n (n+1) d l (Rk.xy m1 r c (i+1)) L):=by rw [Rk.mxr_same (.inr S)];exact T
          rw [B];clear S B T C1;go_wp2;go_roundw
          case rel=>exact ⟨i+1,O,zN,KS,K2⟩
          case measure=>exact bO
         ·have B:(oI (m1 i c).num==0)=false:=by
           rw [beq_eq_false_iff_ne];exact fun e=>S (m8.1 e)
          obtain ⟨ml,F⟩:=eX (oI (m1 i c).num);rw [<- F] at B ⊢;obtain ⟨rt,_⟩:=T.out.cell r hr;obtain ⟨qb,d0,d1,_⟩:=(T.row r hr).at c O;rw [Rk.mxr_r] at d1;have D1:=aa d1;have CX:Hid (∀ wx,w7.grownBy wx none->wx.cell? ⟨o,i,none⟩=some (.slice (some ⟨d i,0,none⟩) (n+1) (l i))/\wx.cell? ⟨d i,c,none⟩=some (.pointer (some ⟨qa,0,none⟩))/\wx.cell? ⟨o,r,none⟩=some (.slice (some ⟨d r,0,none⟩) (n+1) (l r))/\wx.cell? ⟨d r,c,none⟩=some (.pointer (some ⟨qb,0,none⟩))) :=
           fun wx hg=>⟨hg.cell it Z,hg.cell c0 Z,hg.cell rt Z,hg.cell d0 Z⟩
          clear S F it c0 rt d0 d1;have GG:w7.grownBy w7 none:=ag _ _;have s0:=CX.out w7 GG;go_upto_region 14 with fail;go_region_held3 (fun w'=>w'.cell? ⟨o,i,none⟩=some (.slice (some ⟨d i,0,none⟩) (n+1) (l i))/\w'.cell? ⟨d i,c,none⟩=some (.pointer (some ⟨qa,0,none⟩))/\w'.cell? ⟨o,r,none⟩=some (.slice (some ⟨d r,0,none⟩) (n+1) (l r))/\w'.cell? ⟨d r,c,none⟩=some (.pointer (some ⟨qb,0,none⟩))) (go_keep)
           (first | (go_at_call 63;refine (wA qa qb _ _ L L _ ((C1.x O).keep0 (gx GG)) ((D1.x O).keep0 (gx GG)) hY O).mono ?_;rintro e V ⟨fq,rfl,y1,W,y3⟩;have GG:=ab (gx GG) W;have k0:=CX.out V GG;have Y1:=aa y1;clear y1 W y3))
          all_goals
           have K8:Hid (dr V o n (n+1) d l (Rk.Bx m1 r c i c) L):=(T.keep0 GG).congr (fun x _ y _=>Rk.mxk_start hC x y);have G8:Hid (X.grownBy V none):=ab K2 GG;clear s0 k0 T K2 CX C1 D1 GG;go_wp2;go_loopw [12] (fun v wr=>Hid (RkK X n o L d l m1 r c i fq v wr)) (fun v _=>n+1-(intOf v).toNat)
           case atStart=>exact ⟨c,zL,O,rfl,K8.keep0 zE,.inl (Y1.keep0 zE),ab G8 zE⟩
           case round =>
            obtain ⟨k,mm,mo,rfl,l1,l2,l3⟩:=hrel.out;have L1:=aa l1;have L2:=aa l2;have L3:=aa l3;clear l1 l2 l3 hrel;by_cases kf:k<=n
            ·obtain ⟨it,_⟩:=L1.out.cell i t;obtain ⟨rt,_⟩:=L1.out.cell r hr;obtain ⟨pa,c0,c1,cf⟩:=(L1.row i t).at k O;obtain ⟨pb,d0,d1,_⟩:=(L1.row r hr).at k O;rw [Rk.mxk_i] at c1;rw [Rk.mxk_r ke] at d1;have C1:=aa c1;have D1:=aa d1;have js:(0:Int)<=(k:Int):=O
             have yb:(k:Int)<(n:Int)+1:=O
             have CF:Hid (∀ wx,wr.grownBy wx none->wx.frozen? ⟨d i,k,none⟩=false):=fun wx hg=>((L1.keep0 hg).row i t |>.at k O).elim fun _ h=>h.2.2 k
             have CX:Hid (∀ wx,wr.grownBy wx none->wx.cell? ⟨o,i,none⟩=some (.slice (some ⟨d i,0,none⟩) (n+1) (l i))/\wx.cell? ⟨d i,k,none⟩=some (.pointer (some ⟨pa,0,none⟩))/\wx.cell? ⟨o,r,none⟩=some (.slice (some ⟨d r,0,none⟩) (n+1) (l r))/\wx.cell? ⟨d r,k,none⟩=some (.pointer (some ⟨pb,0,none⟩))) :=
              fun wx hg=>⟨hg.cell it Z,hg.cell c0 Z,hg.cell rt Z,hg.cell d0 Z⟩
             clear it rt c0 d0 c1 d1 cf;have GG:wr.grownBy wr none:=ag _ _;have s0:=CX.out wr GG;have MC:Hid (∀ wx,wr.grownBy wx none->Calls Tryz.prog 34 #[.pointer (some ⟨fq,0,none⟩),.pointer (some ⟨pb,0,none⟩)] wx fun e w'=>Ci wx (Rk.fc m1 r c i*m1 r k) (L+L+2+L+2) e w'):=fun wx hg=>wj fq pb _ _ (L+L+2) L wx ((L2.x O).keep0 hg) ((D1.x O).keep0 hg) O
             have SC:Hid (∀ wx bm,wr.grownBy wx none->RQ wx bm (Rk.fc m1 r c i*m1 r k) (L+L+2+L+2)->Calls Tryz.prog 33 #[.pointer (some ⟨pa,0,none⟩),.pointer (some ⟨bm,0,none⟩)] wx fun e w'=>Ci wx (m1 i k-Rk.fc m1 r c i*m1 r k) (L+(L+L+2+L+2)+3) e w'):=fun wx bm hg hq=>tO pa bm _ _ L (L+L+2+L+2) wx ((C1.x O).keep0 hg) hq.x O
             go_upto_region 18 with fail;refine hdL (fun w'=>w'.cell? ⟨o,i,none⟩=some (.slice (some ⟨d i,0,none⟩) (n+1) (l i))/\w'.cell? ⟨d i,k,none⟩=some (.pointer (some ⟨pa,0,none⟩))/\w'.cell? ⟨o,r,none⟩=some (.slice (some ⟨d r,0,none⟩) (n+1) (l r))/\w'.cell? ⟨d r,k,none⟩=some (.pointer (some ⟨pb,0,none⟩))) (fun j=>j==23) (fun hHeld=>?_);refine tkL 4 [(0,101,.slice (some ⟨o,0,none⟩) n cm),(1,102,.int .i64 i),(2,103,.pointer (some ⟨o,i,none⟩)),(3,104,.slice (some ⟨d i,0,none⟩) (n+1) (l i)),(4,105,.int .i64 k),(5,106,.slice (some ⟨o,0,none⟩) n cm),(6,107,.int .i64 i),(7,108,.pointer (some ⟨o,i,none⟩)),(8,109,.slice (some ⟨d i,0,none⟩) (n+1) (l i)),(9,110,.int .i64 k),(10,111,.pointer (some ⟨d i,k,none⟩)),(11,112,.pointer (some ⟨pa,0,none⟩)),(12,113,.pointer (some ⟨fq,0,none⟩)),(13,114,.slice (some ⟨o,0,none⟩) n cm),(14,115,.int .i64 r),(15,116,.pointer (some ⟨o,r,none⟩)),(16,117,.slice (some ⟨d r,0,none⟩) (n+1) (l r)),(17,118,.int .i64 k),(18,119,.pointer (some ⟨d r,k,none⟩)),(19,120,.pointer (some ⟨pb,0,none⟩))] ?_;simp only [pA,pL,vA,vL,q0,q1,q2,q3];refine onL 3 20 (fun K H=>?_);simp only [ax,q4,q5,q6,q7];go_simp
             go_at_call 34
             refine (MC _ (gx GG)).mono ?_;rintro e V ⟨ba,rfl,y1,W,y3⟩;have GG:=ab (gx GG) W;have k0:=CX.out V GG;have Y1:=aa y1;clear y1 W y3;go_wp2_with fail;refine bkL H (fun hHeld=>?_);clear H K;try simp only [pA,pL,vA,vL,q0,q1,q2,q3]
             refine onL 2 21 (fun K H=>?_);simp only [ax,q4,q5,q6,q7];go_simp
             go_at_call 33
             refine (SC _ ba (gx GG) (Y1.keep0 (gx (ag _ _)))).mono ?_;rintro e wb ⟨bb,rfl,y1,W,y3⟩;have GG:=ab (gx GG) W;have k1:=CX.out wb GG;have Y2:=aa y1;clear y1 W y3;go_wp2_with fail;refine bkL H (fun hHeld=>?_);clear H K;try simp only [pA,pL,vA,vL,q0,q1,q2,q3]
             refine tkL 1 [(22,123,.pointer (some ⟨d i,k,none⟩))] ?_;simp only [pA,pL,vA,vL,q0,q1,q2,q3];refine onL 0 23 (fun K H=>?_);simp only [ax,q4,q5,q6,q7];have cf:=CF.out wb GG;go_simp
             refine bkT H ?_;clear H K;refine endL ?_;have NL:Hid (RV wb bb (Rk.dM m1 r (Rk.fc m1 r c) i k) L):=by
              have h1:=FN.out i k t kf;rw [Rk.less_at ke.out] at h1 ⊢;exact aa (RV.tightW (.inl Y2) h1)
             have MK:=L1.out.keep0 GG;have kg:=(MK.row i t).noB O;obtain ⟨t1,t2⟩:=(MK.row i t).set k O NL;have MS:Hid (dr (wb.setCell ⟨d i,k,none⟩ (.pointer (some ⟨bb,0,none⟩))) o n (n+1) d l (Rk.Bx m1 r c i (k+1)) L):=by
              show dr ..
              rw [Rk.mxk_put];exact MK.step O t t1 t2
             have LS:Hid (RV (wb.setCell ⟨d i,k,none⟩ (.pointer (some ⟨bb,0,none⟩))) fq (Rk.fc m1 r c i) (L+L+2)):=(L2.keep0 GG).keepW t2.1 t2.2 ((L2.keep0 GG).apart kg);have GS:Hid (X.grownBy (wb.setCell ⟨d i,k,none⟩ (.pointer (some ⟨bb,0,none⟩))) none):=zx (ab L3 GG) t2.1 (B5 i t);obtain ⟨w9,kw⟩:=eX (wb.setCell ⟨d i,k,none⟩ (.pointer (some ⟨bb,0,none⟩)));rw [<- kw] at MS LS GS ⊢;clear kw t1 t2 kg MK NL L1 L2 L3 MC SC CX CF C1 D1 Y1 Y2 k0 k1 s0 cf hHeld GG;go_wp2;go_roundw
             case rel=>exact ⟨k+1,O,O,zN,MS,LS,GS⟩
             case measure=>exact bO
            ·obtain rfl:k=n+1:=O
             have KS:Hid (dr wr o n (n+1) d l (Rk.xy m1 r c (i+1)) L):=L1.out.congr (fun x _ y hy=>Rk.mxk_end x y hy);clear L1 L2;go_wp2;go_roundw
             case rel=>exact ⟨i+1,O,zN,KS,L3⟩
             case measure=>exact bO
       ·obtain rfl:i=n:=O
        have KF:Hid (dr w7 o i (i+1) d l (Rk.dM m1 r (Rk.fc m1 r c)) L):=T.out.congr (fun x hx y _=>by rw [Rk.mxr_end hx]);have kk:=aa (Rk.lc_col (n:=i) (r:=r) (P:=P) hc);clear T FN hY hC;by_cases kl:c<i
        ·have he:Hid (a+1=Rk.lc i (fun j=>if j=r then c else P j) (r+1)):=by show _=_;rw [kk,if_pos kl,I]
         go_wp2;go_roundw
         case rel=>exact ⟨r+1,c+1,a+1,_,_,_,d,l,zN,zN,zN,zN,he,GN,ka,KF,K2,B5⟩
         case measure=>exact bO
        ·have he:Hid (a=Rk.lc i (fun j=>if j=r then c else P j) (r+1)):=by show _=_;rw [kk,if_neg kl,I];rfl
         go_wp2;go_roundw
         case rel=>exact ⟨r+1,c+1,a,_,_,_,d,l,rfl,zN,zN,zN,he,GN,ka,KF,K2,B5⟩
         case measure=>exact bO
    ·obtain rfl:p=n:=O
     have kS:=aa (Rk.gj_skip G hc (fun i h1 h2=>HZ i h1 h2));have hW:(((p:Nat):Int)==((p:Nat):Int))=true:=Z
     clear G HZ;go_wp2;go_roundw
     case rel=>exact ⟨r,c+1,a,P,perm,m,bs,cs,rfl,rfl,rfl,zN,I,kS,AN,Q,GR,B1⟩
     case measure=>exact bO
  ·have kn:=Rk.gj_end G C;rcases kn with ⟨h1,h2⟩ | ⟨h1,h2,h3⟩ | ⟨h1,h2,h3,h4,h5⟩
   ·rw [<- I] at h1;have ko:(((a:Nat):Int)==((n:Nat):Int))=false:=by rw [beq_eq_false_iff_ne];omega
    have H2:Hid (∀ y,¬ Rk.um n m0 y):=fun y hy=>h2 y ((AN y).2 hy)
    clear h2 G;by_cases hc:c<=n
    ·have hr:¬ r<n:=fun h=>C ⟨hc,h⟩
     clear C;go_wp2;go_ret3
     exact ⟨a,r,_,rfl,GR,.inl ⟨h1,H2⟩⟩
    ·clear C;go_wp2;go_ret3
     exact ⟨a,r,_,rfl,GR,.inl ⟨h1,H2⟩⟩
   ·rw [<- I] at h1;have ko:(((a:Nat):Int)==((n:Nat):Int))=false:=by rw [beq_eq_false_iff_ne];omega
    have H3:Hid (∃ y z q,Rk.um n m0 y/\Rk.um n m0 z/\q<n/\y q≠z q):=by
     obtain ⟨y,z,q,e1,e2,e3,e4⟩:=h3;exact ⟨y,z,q,(AN y).1 e1,(AN z).1 e2,e3,e4⟩
    have hc:¬ c<=n:=fun h=>C ⟨h,h2⟩
    have H1:=aa h1;have qc:a<n:=O
    clear h1 h3 G C;go_wp2;go_ret3
    exact ⟨a,r,_,rfl,GR,.inr (.inl ⟨H1,qc,H3⟩)⟩
   ·rw [<- I] at h1;have e1:n=r:=h2.symm;subst e1;have e2:n=a:=h1.symm;subst e2;have ko:(((n:Nat):Int)==((n:Nat):Int))=true:=Z
    have H3:=aa ((AN _).1 h3);have H4:Hid (∀ z,Rk.um n m0 z->∀ i,i<n->z i=m i n / m i i):=fun z hz=>h4 z ((AN z).2 hz)
    have H5:=aa h5;have jv:¬ n<n:=O
    clear h1 h2 h3 h4 h5 G AN I ky;by_cases hc:c<=n
    all_goals
     clear C;go_wp2;go_loopw [6,13] (fun v6 v13 wr=>Hid (RkX U n m L v6 v13 wr)) (fun _ v13 _=>n-(intOf v13).toNat)
     case atStart=>exact ⟨0,[],O,rfl,rfl,mW,fun j h=>by simp at h,ag _ _⟩
     case round =>
      obtain ⟨i,xs,hi,rfl,hN,ox,hx,g5⟩:=hrel.out;obtain ⟨xo,xc,rfl⟩:=ox.1.shape;have hf:=aa hN;have OX:=aa ox;have HX:=aa hx;have G5:=aa g5;rw [hN] at OX ⊢;clear hN ox hx g5 hrel;by_cases t:i<n
      ·have kN:(0:Int)<=(i:Int):=O
       have kb:(i:Int)<(n:Int):=O
       have yc:(i:Int)<(n:Int)+1:=O
       have mc:(0:Int)<=(n:Int):=O
       have yl:(n:Int)<(n:Int)+1:=O
       obtain ⟨it,_⟩:=Q.out.cell i t;obtain ⟨pa,c0,c1,_⟩:=(Q.row i t).at n O;obtain ⟨pb,d0,d1,_⟩:=(Q.row i t).at i O;have QC:Hid (∀ wx,U.grownBy wx none->Calls Tryz.prog 63 #[.pointer (some ⟨pa,0,none⟩),.pointer (some ⟨pb,0,none⟩)] wx fun e w'=>Ci wx (m i n / m i i) (L+L+2) e w'):=fun wx hg=>wA pa pb _ _ L L wx ((c1.x O).keep0 hg) ((d1.x O).keep0 hg) (H5 i t) O
       have CZ:Hid (∀ wx ro,U.grownBy wx ro->(∀ k,ro=some k->U.heap.size<=k)->wx.cell? ⟨o,i,none⟩=some (.slice (some ⟨bs i,0,none⟩) (n+1) (cs i))/\wx.cell? ⟨bs i,n,none⟩=some (.pointer (some ⟨pa,0,none⟩))/\wx.cell? ⟨bs i,i,none⟩=some (.pointer (some ⟨pb,0,none⟩))):=by
        intro wx ro hg hk;have k1:=Q.out.lt;have k2:=(Q.row i t).lt;exact ⟨hg.cell it (fun e=>by have:=hk o e.symm;omega),hg.cell c0 (fun e=>by have:=hk (bs i) e.symm;omega),hg.cell d0 (fun e=>by have:=hk (bs i) e.symm;omega)⟩
       clear it c0 c1 d0 d1;have GG:U.grownBy wr none:=G5.out;have s0:=CZ.out wr none GG nofun;go_upto_region 28 with fail;refine hd (fun w'=>w'.cell? ⟨o,i,none⟩=some (.slice (some ⟨bs i,0,none⟩) (n+1) (cs i))/\w'.cell? ⟨bs i,n,none⟩=some (.pointer (some ⟨pa,0,none⟩))/\w'.cell? ⟨bs i,i,none⟩=some (.pointer (some ⟨pb,0,none⟩))) (fun hHeld=>?_);refine tk 4 [(0,147,.slice xo i xc),(1,148,.slice (some ⟨o,0,none⟩) n cm),(2,149,.int .i64 i),(3,150,.pointer (some ⟨o,i,none⟩)),(4,151,.slice (some ⟨bs i,0,none⟩) (n+1) (cs i)),(5,152,.int .i64 n),(6,153,.pointer (some ⟨bs i,n,none⟩)),(7,154,.pointer (some ⟨pa,0,none⟩)),(8,155,.slice (some ⟨o,0,none⟩) n cm),(9,156,.int .i64 i),(10,157,.pointer (some ⟨o,i,none⟩)),(11,158,.slice (some ⟨bs i,0,none⟩) (n+1) (cs i)),(12,159,.int .i64 i),(13,160,.pointer (some ⟨bs i,i,none⟩)),(14,161,.pointer (some ⟨pb,0,none⟩))] ?_;simp only [pA,pL,vA,vL,q0,q1,q2,q3];refine cQ 3 15 (fun K H=>?_);simp only [ax,q4,q5,q6,q7];go_simp
       go_at_call 63
       refine (QC _ (gx GG)).mono ?_;rintro e V ⟨bq,rfl,y1,W,y3⟩;have ks:Hid (wr.heap.size<=bq):=Nat.le_trans (show wr.heap.size<=_ from (by first | exact (aX (w:=wr)).size | exact (bG (w:=wr) _).size | exact zL)) y3;have GW:wr.grownBy V none:=ab (gx (ag wr none)) W;have GG:=ab (gx GG) W;have k0:=CZ.out V none GG nofun;have Y1:=aa y1;clear y1 W y3;go_wp2_with fail;refine bk H (fun hHeld=>?_);clear H K;try simp only [pA,pL,vA,vL,q0,q1,q2,q3]
       refine cQ 2 16 (fun K H=>?_);simp only [ax,q4,q5,q6,q7];go_simp
       refine bk H (fun hHeld=>?_);clear H K;try simp only [pA,pL,vA,vL,q0,q1,q2,q3]
       refine on1e 1 17 ⟨some 164,.call ⟨.builtin .append,#[.tmp 147,.tmp 163],#[31,31]⟩,31, "nets.go:394",#[⟨0,.data⟩,⟨16,.data⟩,⟨15,.chain⟩],none⟩ (fun K H=>?_);have hG:Hid (mD (V.alloc (Obj.cells #[.pointer (some ⟨bq,0,none⟩)] 37)) U.heap.size (.slice xo i xc) xs):=OX.out.keep0 (ab GW (by first | exact ae (ag _ _) _ | exact ar (ae (ag _ _) _) 1 | exact ae aX _ | exact ae (bG _) _));refine lX pfV 37 (.pointer none) 8 _ rfl _ _ 31 rfl U.heap.size Tryz.underlying31 Tryz.infoPR rfl (fun x=>by intro e;cases e) (fun u x=>by intro e;cases e) (.slice xo i xc) xs rfl hG V.heap.size bq rfl (by go_simp;rfl) rfl (by rw [hf];omega) zD (by simp;exact Nat.le_succ_of_le GG.size) ?_;intro qf ku w6 hl ho hH;have hv:wr.grownBy (V.alloc (Obj.cells #[.pointer (some ⟨bq,0,none⟩)] 37)) none:=ab GW (ae (ag _ _) _);have G6:Hid (U.grownBy w6 none):=aj (r:=none) (ab G5 hv) ho (fun _ _ e=>e) (fun b hb e=>by have:=(OX.1.fresh b e.symm).1;omega);have z6:=CZ.out w6 _ (aj (r:=(Value.slice xo i xc).ownBlock) (ab G5 hv) ho nofun (fun _ _ e=>e)) (fun k e=>(OX.1.fresh k e).1);have X6:Hid (∀ j (h:j<(xs++[bq]).length),RV w6 (xs++[bq])[j] (m j n / m j j) (L+L+2)):=by
        intro j h;by_cases hj:j<xs.length
        ·rw [List.getElem_append_left hj];have h1:=(HX j hj).keep0 hv;exact h1.keepW ho hH (h1.apart (hG.noB O))
        ·have ej:j=xs.length:=by simp at h;omega
         have ei:j=i:=by rw [ej];exact hf
         subst ei;rw [List.getElem_append_right O];simp only [ej,Nat.sub_self,List.getElem_cons_zero];have h1:RV (V.alloc (Obj.cells #[.pointer (some ⟨bq,0,none⟩)] 37)) bq (m j n / m j j) (L+L+2):=.inl (Y1.keep0 (ae (ag _ _) _));rw [ej] at h1;refine h1.keepW ho hH (fun e=>?_);have h2:=(OX.1.fresh bq e.symm).2;have h3:=ks.out;omega
       rw [hf] at hl ⊢;have OW:=aa hl;clear hl ho hH hv s0 k0 OX HX hG Y1;refine bk H (fun hHeld=>?_);clear H K;refine tk 0 [(18,6,.slice qf (i+1) ku)] ?_;try simp only [pA,pL,vA,vL,q0,q1,q2,q3]
       refine wpAnyH_done zK ?_ _;clear hHeld z6 GG GW CZ QC ks;go_wp2;go_roundw
       case rel=>exact ⟨i+1,xs++[bq],O,zN,by rw [List.length_append,hf];rfl,OW,X6,G6⟩
       case measure=>exact bO
      ·obtain rfl:i=n:=O
       go_wp2;go_ret3
       exact ⟨i,i,_,rfl,ab GR G5,.inr (.inr ⟨rfl,rfl,fun k=>m k i / m k k,xs,H3,H4,hf,by have:=OX.out.low GR.size;exact this,fun j h=>HX j h⟩)⟩
def km (w:World) (b:Nat) (v:Value):Prop:=w.heap[b]? = some (Obj.cells #[v] 66 (0,0))
theorem km.lt (h:km w b v):b<w.heap.size:=(zZ h).1
theorem km.keep (h:km w b v) (g:w.grownBy w' r) (a:some b≠r):km w' b v:=by
 have d:=h.lt;unfold km at h ⊢;rw [g.block b d a,h]
theorem km.cells (h:km w b v):w.cell? ⟨b,0,none⟩=some v/\w.frozen? ⟨b,0,none⟩=false:=by
 unfold km at h;exact ⟨by simp [World.cell?,h],by simp [World.frozen?,h]⟩
theorem km.set {a:Option Addr} {l:Nat} (h:km w b (.slice a l c)) (x:Value):km (w.setCell ⟨b,0,none⟩ x) b x/\aO w (w.setCell ⟨b,0,none⟩ x) b:=by
 unfold km at h ⊢;exact ⟨by rw [heap_setCell_same w b 0 _ _ _ h];rfl,aO.set h (fun y e=>by simp at e) _⟩
def FzR (w:World) (g n:Nat) (v:Value) (wr:World):Prop :=
 ∃ (i:Nat) (xs:List (Option Nat)),i<=n/\v=.int .i64 i/\xs.length=n/\fy pv 37 wr g xs/\(∀ k,k<i->∃ p,xs[k]? = some (some p)/\RV wr p 0 4)/\w.grownBy wr none
theorem fy.rowW (h:fy pv 37 w g xs) (i:Nat) (z:Value):aO w (w.setCell ⟨g,i,none⟩ z) g:=by
 refine aO.set h (fun x e=>?_) z;rw [List.getElem?_toArray,List.getElem?_map] at e;cases hx:xs[i]? with
 | none=>rw [hx] at e;cases e
 | some u =>
  rw [hx] at e;cases u<;>cases e
theorem fy.noBp (h:fy pv 37 w g xs) (a:0<xs.length):za w (some g):=by
 intro k e;obtain rfl:=zJ e;refine ⟨_,h.cell 0 a,fun x e=>?_⟩;cases hu:xs[0] with
 | none=>rw [hu] at e;cases e
 | some u=>rw [hu] at e;cases e
theorem fy.prow (h:fy pv 37 w g xs) (a:∀ k,k<n->∃ p,xs[k]? = some (some p)/\RV w p 0 4):dt w g n (fun _=>0) 4:=by
 refine ⟨_,_,h,fun i hi=>?_⟩;obtain ⟨p,d,e⟩:=a i hi;refine ⟨p,?_,e⟩;rw [List.getElem?_toArray,List.getElem?_map,d];rfl
theorem qx {w1:World} {v1:Value} {t:TypeId} {R:Nat->Nat->Rat} (h:da (eM n) t w base v (cd bs cs i)) (hn:0<n) (d:gO w base n i bs cs R L)
  (h4:dt w g n (fun _=>0) 4) (hv:v.ownBlock≠some g) (hg:w.grownBy w1 v.ownBlock) (hk:aN w w1) (h0:i=0->v.ownBlock=none) (ho:da (eM n) t w1 base v1 (cd bs cs i++[(g,c)])) :
  da (eM n) t w1 base v1 (cd (cZ bs i g) (cZ cs i c) (i+1))/\gO w1 base n i bs cs R L/\dt w1 g n (fun _=>0) 4:=by
 rw [sD] at ho;have a:za w v.ownBlock:=by
  rcases zP i with e | e
  ·rw [h0 e];exact za.none w
  ·exact h.noB e
 exact ⟨ho,d.keepB hg hk (fun j f=>h.ne_prow O (d.row j f) hn) a,h4.keep hg hk (fun e=>hv e.symm) a⟩
def FreshE (w:World) (oa:Option Addr) (oc gm n i:Nat) (bs cs:Nat->Nat) (R:Nat->Nat->Rat) (L:Nat) (e:Ending) (w':World):Prop :=
 ∃ (g:Nat) (ao:Option Addr) (cap:Nat),e=.returned (.slice (some ⟨g,0,none⟩) n n)/\w.heap.size<=g/\km w' gm (.slice ao (i+1) cap)/\da (eM n) 109 w' (gm+1) (.slice ao (i+1) cap) (cd (cZ bs i g) (cZ cs i n) (i+1))
  /\ gO w' (gm+1) n i bs cs R L/\dt w' g n (fun _=>0) 4/\gm+1<=g/\(∀ j,j<i->bs j≠g)/\w'.heap.size≥w.heap.size/\(∀ (W:World),W.grownBy w none->W.heap.size<=gm->W.grownBy w' none)
  /\ ∀ k,k<w.heap.size->k≠gm->(Value.slice oa i oc).ownBlock≠some k->w'.heap[k]? = w.heap[k]?
theorem Tryz.infoRowP:(Tryz.prog.info? 109).map (fun i=>(i.zero,i.size,i.bytes))=some (some (.slice none 0 0),1,24):=zK
theorem uX (gs f d i D L:Nat) (C:Option Addr) (bs cs:Nat->Nat) (R:Nat->Nat->Rat) (w:World) (hs:w.cell? ⟨gs,0,none⟩=some (.int .i64 d)) (hz:d<=100000) (hb:km w f (.slice C i D))
  (ho:da (eM (d+1)) 109 w (f+1) (.slice C i D) (cd bs cs i)) (hr:gO w (f+1) (d+1) i bs cs R L) (hi:i<=1000) (h0:i=0->C=none) :
  Calls Tryz.prog 59 #[.pointer (some ⟨gs,0,none⟩),.pointer (some ⟨f,0,none⟩)] w fun e w'=>FreshE w C D f (d+1) i bs cs R L e w':=by
 have HB:=aa hb;have HO:=aa ho;have HR:=aa hr;clear hb ho hr;go_enter Tryz.func59,Tryz.ntmps59
 have hw:IntKind.i64.wrap ((d:Int)+1)=(d:Int)+1:=IntWalk.i64_in _ ⟨O,O⟩;go_wp2_with (at_make;refine ja pv 37 none 8 _ rfl _ _ 109 rfl Tryz.underlying109 Tryz.infoPR rfl _ _ _ _ (d+1) rfl rfl O O O O ?_)
 intro w1 ha g1;obtain ⟨g,hg⟩:=eX w.heap.size;rw [<- hg] at ha ⊢;have HA:=aa ha;have G1:=aa g1;have s:Hid (w.heap.size<=g):=Nat.le_of_eq hg.symm;have hu:Hid (g=w.heap.size):=hg;clear ha g1 hg hs;have H0:Hid (i=0->(Value.slice C i D).ownBlock=none):=fun e=>by rw [h0 e];rfl
 clear h0;go_wp2;go_loopw [10] (fun v wr=>Hid (FzR w g (d+1) v wr)) (fun v _=>d+1-(intOf v).toNat)
 case atStart=>exact ⟨0,_,O,rfl,Z,HA,fun k h=>O,G1⟩
 case round =>
  obtain ⟨k,xs,hk,rfl,Y,ha,hp,g2⟩:=hrel.out;have A2:=aa ha;have P2:=aa hp;have E:=aa g2;have t:=aa Y;clear ha hp g2 Y hrel HA G1;by_cases hlt:k<d+1
  ·have hx:(0:Int)<=(k:Int):=O
   have hq:(k:Int)<(d:Int)+1:=O
   go_wp2_with fail;refine (gS 0 wr O O).mono ?_;rintro e w2 ⟨q,rfl,y1,y2,y3⟩;have e0:((0:Int):Rat)=0:=rfl;rw [e0] at y1;have I:=A2.out.keep0 y2;have c1:=I.cell k (by rw [t];exact hlt);have c2:=I.free k;have S:=I.set k (some q) (.pointer (some ⟨q,0,none⟩)) rfl;have o:=I.rowW k (.pointer (some ⟨q,0,none⟩));have no:=I.noBp (by rw [t];omega);have P3:Hid (∀ j,j<k+1->∃ p,(xs.set k (some q))[j]? = some (some p)/\RV (w2.setCell ⟨g,k,none⟩ (.pointer (some ⟨q,0,none⟩))) p 0 4):=by
    intro j hj;by_cases e:j=k
    ·subst e;have G:RV w2 q 0 4:=.inl y1;exact ⟨q,by rw [List.getElem?_set_self (by rw [t];exact hlt)],G.keepW o.1 o.2 (G.apart no)⟩
    ·obtain ⟨p,G,h2⟩:=P2.out j O;have h3:=h2.keep0 y2;exact ⟨p,by rw [List.getElem?_set_ne (Ne.symm e)];exact G,h3.keepW o.1 o.2 (h3.apart no)⟩
   have A4:=aa S;have G3:=aa (ab E y2);clear S o no I y1 y2 y3 e0 A2 P2;go_wp2;go_roundw
   case rel=>exact ⟨k+1,xs.set k (some q),O,zN,by rw [List.length_set];exact t,A4,P3,ah G3 _ _ s⟩
   case measure=>exact bO
  ·obtain rfl:k=d+1:=O
   have PR:Hid (dt wr g (d+1) (fun _=>0) 4):=A2.out.prow P2;have B2:=aa (HB.keep E Z);have T:=aa (HO.keep0 E);have R2:=aa (HR.keep0 E);have he:Hid ((Value.slice C i D).ownBlock≠some g):=fun e=>by have:=(HO.1.fresh g e).2;have:=s.out;omega
   have hf:Hid (∀ j,j<i->bs j≠g):=fun j hj e=>by have:=(HR.row j hj).lt;have:=s.out;omega
   have U:Hid (f+1<=g):=by have:=HB.out.lt;have:=s.out;show _<=_;omega
   obtain ⟨m0,m1⟩:=B2.out.cells;clear A2 P2 HB HO HR t hlt;go_wp2_with (at_builtin;refine dC (eM (d+1)) 109 (.slice none 0 0) 24 _ rfl _ _ 66 rfl (f+1) Tryz.underlying66 Tryz.infoRowP rfl (fun x=>by simp [Value.cells]) (fun u x=>by simp [eM]) (.slice C i D) (cd bs cs i) rfl (T.keep0 (ae (ag _ _) _)) wr.heap.size (g,d+1) rfl (by go_simp;rfl) rfl (by rw [bA];omega) O (by simp;have:=B2.out.lt;omega) ?_)
   intro B a Q A m X;rw [bA] at A ⊢;have l:=ae (ag wr none) (Obj.cells #[.slice (some ⟨g,0,none⟩) (d+1) (d+1)] 109);have M:=aa (qx (T.keep0 l) O (R2.keep0 l) (PR.keep0 l) he m X H0 A);have V:some f≠(Value.slice C i D).ownBlock:=fun e=>by have:=(T.1.fresh f e.symm).1;omega
   have B5:=(B2.keep l Z).keep m V;obtain ⟨n0,n1⟩:=B5.cells;obtain ⟨S,o⟩:=B5.set (.slice B (i+1) a);have F:(Value.slice B (i+1) a).ownBlock=none∨(Value.slice B (i+1) a).ownBlock≠some f:=by
    cases hv:(Value.slice B (i+1) a).ownBlock with
    | none=>exact .inl rfl
    | some k =>
     right
     intro e;have:=(M.1.1.fresh k hv).1;have:=zJ e;omega
   have B6:=aa S;have O6:=aa (M.1.keep o.1 F);have H:za Q (some f):=fun k e=>by
    obtain rfl:=zJ e;exact ⟨_,n0,fun x=>Z⟩
   have R6:Hid (gO (Q.setCell ⟨f,0,none⟩ (.slice B (i+1) a)) (f+1) (d+1) i bs cs R L):=M.out.2.1.keepB o.1 o.2 (fun j hj e=>by have:=M.out.2.1.low j hj;have:=zJ e;omega) H;have P6:Hid (dt (Q.setCell ⟨f,0,none⟩ (.slice B (i+1) a)) g (d+1) (fun _=>0) 4):=M.out.2.2.keep o.1 o.2 (fun e=>by have:=U.out;have:=zJ e;omega) H;have GF:Hid (∀ (W:World),W.grownBy w none->W.heap.size<=f->W.grownBy (Q.setCell ⟨f,0,none⟩ (.slice B (i+1) a)) none):=by
    intro W h hl;refine ah (aj (r:=none) (ab (ab h E) l) m (fun _ _ e=>e) (fun b hb e=>?_)) _ _ hl;have:=(T.1.fresh b e.symm).1;omega
   have GK:Hid (∀ k,k<w.heap.size->k≠f->(Value.slice C i D).ownBlock≠some k->(Q.setCell ⟨f,0,none⟩ (.slice B (i+1) a)).heap[k]? = w.heap[k]?):=by
    intro k G h2 h3;have h4:=Nat.lt_of_lt_of_le G E.size;rw [heap_setCell_other _ _ k _ h2,m.block k (Nat.lt_of_lt_of_le h4 l.size) (fun e=>h3 e.symm),l.block k h4 Z,E.block k G Z]
   have hm:Hid ((Q.setCell ⟨f,0,none⟩ (.slice B (i+1) a)).heap.size≥w.heap.size):=by
    exact Nat.le_trans E.size (Nat.le_trans l.size (Nat.le_trans m.size Z))
   clear A m X l M V B5 S o F H m0 m1 T R2 B2 PR;go_wp2;go_ret;exact ⟨g,B,a,rfl,s,B6,O6,R6,P6,U,hf,hm,GF,GK⟩
end Go.Proofs.YtbfohfjobncehaaGreatDoor
