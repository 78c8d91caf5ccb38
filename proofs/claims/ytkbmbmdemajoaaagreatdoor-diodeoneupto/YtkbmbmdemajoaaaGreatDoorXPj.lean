/- Contracts. -/
import Derived.Test.YtkbmbmdemajoaaaGreatDoorXPi
namespace Go.Proofs.YtkbmbmdemajoaaaGreatDoor
open Go.RowKit
set_option linter.unusedVariables false
set_option linter.unusedSimpArgs false
set_option maxHeartbeats 8000000
set_option maxRecDepth 10000
namespace Rk
open Nums
variable {P:Nat->Nat} {m W:Nat->Nat->Rat} {n r:Nat} {s:Nat->Rat} {perm:List Nat}
def gk (P:Nat->Nat):Nat->List Nat
 | 0=>[]
 | r+1=>P r :: gk P r
theorem rC {Q:Nat->Nat} : ∀ r,(∀ j,j<r->P j=Q j)->gk P r=gk Q r
 | 0,_=>rfl
 | r+1,h=>by rw [gk,gk,h r O,rC r fun j a=>h j O]
theorem ta {x:Nat} : ∀ r,x∈gk P r->∃ j,j<r/\P j=x
 | 0,h=>by cases h
 | r+1,h=>by
  rcases List.mem_cons.1 h with e | e
  ·exact ⟨r,O,e.symm⟩
  ·obtain ⟨j,a,e⟩:=ta r e;exact ⟨j,O,e⟩
theorem yS {j:Nat} : ∀ r,j<r->P j∈gk P r
 | 0,h=>absurd h (Nat.not_lt_zero _)
 | r+1,h=>by
  by_cases e:j=r
  ·rw [e];exact List.mem_cons_self ..
  ·exact List.mem_cons_of_mem _ (yS r O)
theorem rD (P:Nat->Nat) (i:Nat):∀ r,i<r->∃ γ1,gk P r=γ1++P i :: gk P i/\∀ x∈γ1,∃ j,j<r/\i<j/\P j=x
 | 0,h=>absurd h (Nat.not_lt_zero _)
 | r+1,h=>by
  by_cases e:i=r
  ·exact ⟨[],by rw [e];rfl,fun x b=>by cases b⟩
  ·obtain ⟨g,c,d⟩:=rD P i r O;refine ⟨P r :: g,by rw [gk,c];rfl,fun x b=>?_⟩;rcases List.mem_cons.1 b with a | a
   ·exact ⟨r,O,O,a.symm⟩
   ·obtain ⟨j,l,f,k⟩:=d x a;exact ⟨j,O,f,k⟩
structure Gj (n:Nat) (W:Nat->Nat->Rat) (s:Nat->Rat) (m:Nat->Nat->Rat) (r c:Nat) (P:Nat->Nat) (perm:List Nat):Prop where
 red:wM n m r c P
 pl:perm.length=n
 pp:∀ c:Nat->Nat,(∀ r,1<=c r)->aV c perm=aV c (List.range n)
 rest:∀ i,r<=i->i<n->fe W (perm.take r).reverse (fun k=>s (perm.getD i 0)*m i k-W (perm.getD i 0) k)
 back:∀ x,(∀ i,i<r->cX (n+1) x (m i)=0)->∀ q∈(perm.take r).reverse,cX (n+1) x (W q)=0
 ind:Ind W (perm.take r).reverse (gk P r)
 dnz:∀ i,i<=r->cP W (gk P i) (perm.take i).reverse≠0
 led:∀ i,i<r->m i (P i)*(cP W (gk P i) (perm.take i).reverse*s (perm.getD i 0))=cP W (gk P (i+1)) (perm.take (i+1)).reverse
theorem gj_start (P:Nat->Nat) (h:∀ i,i<n->∀ k,s i*m i k=W i k):Gj n W s m 0 0 P (List.range n) where
 red:=Bf n m P
 pl:=Z
 pp:=fun _ _=>rfl
 rest:=fun i _ hi j=>by
  rw [zW,zX (by simp;exact hi)];simp only [List.getElem_range,Option.getD_some];rw [h i hi];grind
 back:=fun _ _ q a=>by simp at a
 ind:=yH W
 dnz:=fun i hi=>by
  obtain rfl:i=0:=O
  exact Dy
 led:=fun i hi=>O
theorem gj_skip {c:Nat} (h:Gj n W s m r c P perm) (hc:c<=n) (a:∀ i,r<=i->i<n->m i c=0):Gj n W s m r (c+1) P perm :=
 ⟨D8 h.red hc a,h.pl,h.pp,h.rest,h.back,h.ind,h.dnz,h.led⟩
theorem vz {c:Nat} (h:Gj n W s m r c P perm) (i:Nat) (hi:r<=i) (hn:i<n) (k:Nat) :
  cP W (gk P r) (perm.take r).reverse*s (perm.getD i 0)*m i k=cP W (k :: gk P r) (perm.getD i 0 :: (perm.take r).reverse):=by
 have:=th W (ρ:=(perm.take r).reverse) (γ:=gk P r) (d:=cP W (gk P r) (perm.take r).reverse) (s:=1) (R:=fun k=>cP W (gk P r) (perm.take r).reverse*s (perm.getD i 0)*m i k) (i:=perm.getD i 0) h.ind (iZ _).symm
  (fun j=>by
   show _=cP W (gk P r) (perm.take r).reverse*W (perm.getD i 0) j+cP W (gk P r) (perm.take r).reverse*(s (perm.getD i 0)*m i j-W (perm.getD i 0) j)
   grind) (ia W _ (h.rest i hi hn)) (fun c hc=>by
    obtain ⟨j,a,rfl⟩:=ta r hc;show _*m i (P j)=0
    rw [h.red.low i hi hn _ (h.red.at_ j a),cY]) k
 rw [iZ] at this;exact this
theorem Eu {l:List Nat} {p:Nat} (a:r<l.length) (b:p<l.length):(dE l r p).getD r 0=l.getD p 0:=by
 rw [cG l r p r a b];unfold aM;split
 ·rename_i e;rw [e]
 ·rw [if_pos rfl]
theorem gj_step (N:∀ q,s q≠0) {c p:Nat} (h:Gj n W s m r c P perm) (hc:c<=n) (t:r<=p) (a:p<n) (C:m p c≠0) (f:Nat->Rat)
  (hf:∀ i,i<n->i≠r->f i*dI m r p r c=dI m r p i c):Gj n W s (dD (dI m r p) r f) (r+1) (c+1) (fun j=>if j=r then c else P j) (dE perm r p):=by
 have I:=h.pl;have J:r<n:=O
 have Q:dI m r p r=m p:=by unfold dI;rw [if_pos rfl]
 have b:∀ i,i<=r->gk (fun j=>if j=r then c else P j) i=gk P i:=fun i hi=>rC i fun j hj=>if_neg O
 have y:gk (fun j=>if j=r then c else P j) (r+1)=c :: gk P r:=by rw [gk,b r zL,if_pos rfl]
 have D:∀ i,i<=r->(dE perm r p).take i=perm.take i:=fun i hi=>db perm r p i hi O
 have v:(dE perm r p).getD r 0=perm.getD p 0:=Eu O O;have l:((dE perm r p).take (r+1)).reverse=perm.getD p 0 :: (perm.take r).reverse:=by
  rw [cM _ r (by rw [gM];omega),v,D r zL]
 have K:∀ i,i<r->(dE perm r p).getD i 0=perm.getD i 0:=fun i hi=>by
  rw [cG perm r p i O O,kI zL t hi]
 have L:∀ i,i<n->s ((dE perm r p).getD i 0)=s (perm.getD (aM r p i) 0)/\(dE perm r p).getD i 0=perm.getD (aM r p i) 0:=fun i hi=>by
  rw [cG perm r p i O O];exact ⟨rfl,rfl⟩
 have M:∀ i,dI m r p i=m (aM r p i):=fun i=>by
  unfold dI aM;by_cases A:i=r
  ·by_cases o:i=p
   ·rw [if_pos A,if_pos o];congr 1
    omega
   ·rw [if_pos A,if_neg o,if_pos A]
  ·rw [if_neg A];by_cases o:i=p
   ·rw [if_pos o,if_pos o]
   ·rw [if_neg o,if_neg o,if_neg A]
 have S:∀ k,dD (dI m r p) r f r k=m p k:=fun k=>by unfold dD;rw [if_pos rfl,Q]
 have lo:∀ i,i≠r->∀ k,dD (dI m r p) r f i k=dI m r p i k-f i*m p k:=fun i hi k=>by unfold dD;rw [if_neg hi,Q]
 have E:=h.dnz r zL;have w:=vz h p t a c;have F:cP W (gk P r) (perm.take r).reverse*s (perm.getD p 0)*m p c≠0:=gT (gT E (N _)) C;have Y:fe W (perm.getD p 0 :: (perm.take r).reverse) (m p):=by
  have B:=ia W (1 / s (perm.getD p 0)) (h.rest p t a);have u:=vH W (perm.getD p 0) _ (1 / s (perm.getD p 0)) B;refine jF W (fun j=>?_) u;have G:=gR (N (perm.getD p 0));show 1 / s (perm.getD p 0)*W (perm.getD p 0) j+1 / s (perm.getD p 0)*(s (perm.getD p 0)*m p j-W (perm.getD p 0) j)=m p j
  calc _=(1 / s (perm.getD p 0)*s (perm.getD p 0))*m p j:=by grind
   _=m p j:=by rw [G,iZ]
 refine ⟨D9 h.red hc t a C f hf,by rw [gM];exact I,fun V H=>?_,fun i B u=>?_,fun x X=>?_,?_,fun i hi=>?_,fun i hi=>?_⟩
 ·rw [qh V H perm r p O O];exact h.pp V H
 ·rw [l];obtain ⟨A,o⟩:=L i u;rw [o];have G:r<=aM r p i:=vT zL t O;have h4:aM r p i<n:=dp J a u;have h5:=rQ W (perm.getD p 0) (h.rest _ G h4);have h6:=mx W 1 (-(s (perm.getD (aM r p i) 0)*f i)) _ _ _ h5 Y;refine jF W (fun j=>?_) h6;show 1*(s (perm.getD (aM r p i) 0)*m (aM r p i) j-W (perm.getD (aM r p i) 0) j) + -(s (perm.getD (aM r p i) 0)*f i)*m p j=s (perm.getD (aM r p i) 0)*dD (dI m r p) r f i j-W (perm.getD (aM r p i) 0) j
  rw [lo i O,M];grind
 ·have T:cX (n+1) x (m p)=0:=by
   have:=X r O;rw [show dD (dI m r p) r f r=m p from funext S] at this;exact this
  have B:∀ i,i<r->cX (n+1) x (m i)=0:=fun i hi=>by
   have u:=X i O;have e:dD (dI m r p) r f i=fun k=>1*m i k + -(f i)*m p k:=by
    funext k
    rw [lo i O];unfold dI;rw [if_neg O,if_neg O];grind
   rw [e,sG,T] at u;grind
  have u:=h.back x B;intro q U;rw [l] at U;rcases List.mem_cons.1 U with e | e
  ·rw [e];have G:=mw W (n+1) x _ _ (h.rest p t a) u;have o:(fun k=>s (perm.getD p 0)*m p k-W (perm.getD p 0) k)=fun k=>s (perm.getD p 0)*m p k+(-1)*W (perm.getD p 0) k:=by
    funext k
    grind
   rw [o,sG,T] at G;grind
  ·exact u q e
 ·rw [l,y];refine uu W (d:=cP W (gk P r) (perm.take r).reverse) (R:=fun k=>cP W (gk P r) (perm.take r).reverse*s (perm.getD p 0)*m p k) h.ind E (fun j=>?_) (ia W (cP W (gk P r) (perm.take r).reverse) (h.rest p t a)) (fun g hg=>?_) F
  ·show _=cP W (gk P r) (perm.take r).reverse*W (perm.getD p 0) j+cP W (gk P r) (perm.take r).reverse*(s (perm.getD p 0)*m p j-W (perm.getD p 0) j)
   grind
  ·obtain ⟨j,hj,rfl⟩:=ta r hg;show _*m p (P j)=0
   rw [h.red.low p t a _ (h.red.at_ j hj),cY]
 ·by_cases e:i=r+1
  ·rw [e,l,y,<- w];exact F
  ·rw [b i O,D i O];exact h.dnz i O
 ·by_cases e:i=r
  ·subst e;rw [l,y,<- w,b i zL,D i zL,v];simp only [if_true];rw [S];grind
  ·have z:i<r:=O
   have B:=h.led i z;rw [b i O,b (i+1) O,D i O,D (i+1) O,K i z];try dsimp only
   rw [if_neg e,lo i e,h.red.low p t a _ (h.red.at_ i z)];unfold dI;rw [if_neg e,if_neg O,cY];rw [<- B];grind
def sA (m:Nat->Nat->Rat) (P:Nat->Nat) (k:Nat):Nat->Nat->Rat
 | 0,q=>if q=k then -1 else 0
 | j+1,q=>if q=P j then m j k / m j (P j) else sA m P k j q
theorem j5 {k q:Nat} : ∀ j,(∀ i,i<j->P i≠q)->sA m P k j q=if q=k then -1 else 0
 | 0,_=>rfl
 | j+1,h=>by rw [sA,if_neg (fun e=>h j O e.symm),j5 j fun i hi=>h i O]
theorem sB {c:Nat} (h:wM n m r c P) (k i:Nat):∀ j,j<=r->i<j->sA m P k j (P i)=m i k / m i (P i)
 | 0,_,hi=>absurd hi (Nat.not_lt_zero _)
 | j+1,hj,hi=>by
  rw [sA];by_cases e:i=j
  ·subst e;rw [if_pos rfl]
  ·have:=h.up i j O O;rw [if_neg O];exact sB h k i j O O
theorem yA {x R:Nat->Rat} {a b:Nat} (f:a≠b):∀ n,a<n->b<n->(∀ j,j<n->j≠a->j≠b->R j*x j=0)->cX n x R=R a*x a+R b*x b:=by
 have one:∀ n (q:Nat),q<n->(∀ j,j<n->j≠q->R j*x j=0)->cX n x R=R q*x q:=by
  intro n;induction n with
  | zero=>intro q k;omega
  | succ n ih =>
   intro q k d;rw [cX];by_cases e:q=n
   ·rw [e,lS x R n fun j g=>d j O O,kU]
   ·rw [ih q O fun j g c=>d j O c,d n O O,cd]
 intro n;induction n with
 | zero=>intro h;omega
 | succ n ih =>
  intro ha hb d;rw [cX];by_cases e:b=n
  ·rw [e] at d f ⊢;rw [one n a O fun j g c=>d j O c O]
  ·by_cases i:a=n
   ·rw [i] at d f ⊢;rw [one n b O fun j g c=>d j O O c,wN]
   ·rw [ih O O fun j g l o=>d j O l o,d n O O O,cd]
theorem Co {c:Nat} (h:Gj n W s m r c P perm) (i:Nat) (hi:i<r) (k:Nat) (I:k<=n) (hP:∀ j,j<r->P j≠k) :
  ∃ γ,m i k*cP W (P i :: γ) (perm.take r).reverse=m i (P i)*cP W (k :: γ) (perm.take r).reverse/\cP W (P i :: γ) (perm.take r).reverse≠0:=by
 obtain ⟨f,F,J⟩:=rD P i r hi;have l:=h.red;have x:∀ j,j<r->P j<n+1:=fun j w=>Nat.lt_of_lt_of_le (l.at_ j w) l.cn
 have o:=l.lead i hi;have z:cP W (P i :: (f++gk P i)) (perm.take r).reverse≠0:=by
  have g:=h.dnz r zL;rw [F] at g;rcases qP W (P i) (gk P i) f (perm.take r).reverse with e | e
  ·rw [e] at g;exact g
  ·intro e3;rw [e,e3] at g;exact g ix
 refine ⟨f++gk P i,?_,z⟩;have A:∀ j,j<r->cX (n+1) (sA m P k r) (m j)=0:=fun j w=>by
  rw [yA (a:=k) (b:=P j) (fun e=>hP j w e.symm) (n+1) O (x j w) fun q D g E=>?_]
  ·rw [j5 r hP,if_pos rfl,sB l k j r zL w];have p:=Am (m j k) (m j (P j)) (l.lead j w);rw [l8] at p;rw [p];grind
  ·by_cases d:∃ t,t<r/\P t=q
   ·obtain ⟨t,u,rfl⟩:=d;rw [l.other t u j (Nat.lt_of_lt_of_le w l.rn) (fun e=>E (by rw [e])),iB]
   ·rw [j5 r fun t u e=>d ⟨t,u,e⟩,if_neg g,cY]
 have G:=h.back _ A;have B:cB (fun j=>sA m P k r j*cP W (j :: (f++gk P i)) (perm.take r).reverse) (List.range (n+1))=0:=by
  rw [<- yx];rw [rm (v:=fun _=>0) _ _ fun q D=>by rw [jG];exact G q D];exact rp _ _
 have e3:cB (fun j=>sA m P k r j*cP W (j :: (f++gk P i)) (perm.take r).reverse) (List.range (n+1))=cX (n+1) (fun j=>cP W (j :: (f++gk P i)) (perm.take r).reverse) (sA m P k r):=jG _ _ _;rw [e3,yA (a:=k) (b:=P i) (fun e=>hP i hi e.symm) (n+1) O (x i hi) fun q D g E=>?_,j5 r hP,if_pos rfl,sB l k i r zL hi] at B
 ·have p:=Am (m i k) (m i (P i)) o;have y:m i k / m i (P i)*cP W (P i :: (f++gk P i)) (perm.take r).reverse=cP W (k :: (f++gk P i)) (perm.take r).reverse:=by
   rw [nN,iZ] at B;have:=gU B;rw [jz] at this;exact this
  rw [<- y]
  calc m i k*cP W (P i :: (f++gk P i)) (perm.take r).reverse=(m i k / m i (P i)*m i (P i))*cP W (P i :: (f++gk P i)) (perm.take r).reverse:=by rw [p]
   _=_:=by grind
 ·by_cases d:∃ t,t<r/\P t=q
  ·obtain ⟨t,u,rfl⟩:=d;have H:P t∈f++gk P i:=by
    have p:=yS (P:=P) r u;rw [F] at p;rcases List.mem_append.1 p with y | y
    ·exact List.mem_append.2 (.inl y)
    ·rcases List.mem_cons.1 y with C | C
     ·exact absurd C E
     ·exact List.mem_append.2 (.inr C)
   rw [nX W (P t) _ H,cY]
  ·rw [j5 r fun t u e=>d ⟨t,u,e⟩,if_neg g,iB]
end Rk
end Go.Proofs.YtkbmbmdemajoaaaGreatDoor
