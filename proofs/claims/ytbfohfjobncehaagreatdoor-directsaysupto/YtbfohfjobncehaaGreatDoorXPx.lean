/- Contracts. -/
import Derived.Test.YtbfohfjobncehaaGreatDoorXPg
namespace Go.Proofs.YtbfohfjobncehaaGreatDoor
open Go.RowKit
set_option linter.all false
set_option maxHeartbeats 8000000
set_option maxRecDepth 10000
def acr (ps:List aD) (V:Nat->Rat) (i:Nat):Rat:=match ps[i]? with | some p=>V p.a.toNat-V p.b.toNat | none=>0
theorem kp.one {a:Int} {b:List aD} {c2:Int} {e f:Nat} {V I:Nat->Rat} (h:kp a b 0 c2 e f V I) :
  (aM false a b).1=0/\c2=0/\e=a.toNat/\f=b.length/\aE a.toNat b V I/\∀ V' I',aE a.toNat b V' I'->(∀ j,j<a.toNat->V' j=V j)/\∀ i,i<b.length->I' i=I i:=by
 rcases h with ⟨d,c,_⟩ | ⟨d,g,(⟨_,k,l,m,n⟩ | ⟨c,_⟩ | ⟨c,_⟩)⟩
 ·exact absurd c.symm d
 ·exact ⟨d,g,k,l,m,n⟩
 ·exact absurd c zD
 ·exact absurd c zD
theorem uU {n:Nat} {b:List aD} (c:bS n b) (W:mB n b) {L:Nat} (K:fD (cr n b) (n+b.length)<L) {V I:Nat->Rat} (h:aE n b V I) :
  (∀ j,j<n->mE (V j) L)/\∀ i,i<b.length->mE (I i) L:=by
 obtain ⟨x,Q,F,G⟩:=jU c h;obtain ⟨m,H⟩:=eX (n+b.length);rw [<- H] at Q K;have X:=c.lo;have Y:=c.hi;have M:=c.len;have u:mF (nq (iB n b) (m+1)) m x:=(iO _ _ _).2 Q;obtain ⟨done,S,g,R,d,s,a,hd⟩:=uQ (nq (iB n b) (m+1)) m;have f:done=m:=by
  rcases hd with hd | ⟨hd,T⟩
  ·exact hd
  ·exfalso
   by_cases hn:∀ i,done<=i->i<m->R i m=0
   ·obtain ⟨y,z,hy,J,j,hj,o⟩:=At a hd T hn;obtain ⟨V0,I0,_,p⟩:=gU c W;have ky:=((iN c y).1 (by rw [<- H];exact (iO _ _ _).1 hy)).2;have kz:=((iN c z).1 (by rw [<- H];exact (iO _ _ _).1 J)).2;obtain ⟨a1,b1⟩:=p _ _ ky;obtain ⟨a2,b2⟩:=p _ _ kz;by_cases k:j<n
    ·exact o (by rw [a1 j k,a2 j k])
    ·have N:y (n+(j-n))=I0 (j-n):=b1 (j-n) O;have q:z (n+(j-n))=I0 (j-n):=b2 (j-n) O;rw [show n+(j-n)=j by omega] at N q;exact o (by rw [N,q])
   ·have:∃ i,done<=i/\i<m/\R i m≠0:=by
     apply Classical.byContradiction;intro B;apply hn;intro i C D;apply Classical.byContradiction;intro E;exact B ⟨i,C,D,E⟩
    obtain ⟨i,C,D,E⟩:=this;exact Au a T C D E ⟨x,u⟩
 subst f;have hb:∀ r,1<=4294967296^cr n b r:=fun r=>Nat.one_le_pow _ _ zD
 have P:∀ r j,gP (4294967296^cr n b r) (nq (iB n b) (done+1) r j):=DB n b (done+1);obtain ⟨y,hy,p,hw,_⟩:=As bE a hb P;have v:=Aw bE a O hb P;have hM:=tE done L O (cr n b) K;have l:∀ j,j<done->bh L (y j):=by
  intro j hj;obtain ⟨t,U,e⟩:=List.mem_iff_getElem.1 (a.om j hj);have w:t<done:=by rw [<- a.ol];exact U
  have q:g.getD t 0=j:=by rw [zW,zX U];exact e
  have A:=kM hM (hw t w) v a.dn;rw [q] at A;have e3:d*y j / d=y j:=by
   have:=a.dn;rw [Rat.mul_comm,Rat.div_def,Rat.mul_assoc,Rat.mul_inv_cancel _ this,Rat.mul_one]
  rw [e3] at A;exact A
 refine ⟨fun j hj=>?_,fun i hi=>?_⟩
 ·rw [<- F j hj,p x u j O];exact l j O
 ·rw [<- G i hi,p x u (n+i) O];exact l (n+i) O
theorem mE.sub {p q:Rat} {L:Nat} (c:mE p L) (d:mE q L):mE (p-q) (2*L+1):=by
 obtain ⟨g,b⟩:=c;obtain ⟨q1,q2⟩:=d;have hd:p.den*q.den≠0:=Nat.mul_ne_zero (Nat.ne_of_gt p.den_pos) (Nat.ne_of_gt q.den_pos);have a:(4294967296:Nat)^(2*L+1)=4294967296*(4294967296^L*4294967296^L):=by
  rw [Nat.pow_succ,Nat.two_mul,Nat.pow_add,Nat.mul_comm]
 have h:=Nat.mul_lt_mul'' b q2;have e:=Nat.mul_lt_mul'' g q2;have f:=Nat.mul_lt_mul'' q1 b;rw [<- show mkRat (p.num*(q.den:Int)-q.num*(p.den:Int)) (p.den*q.den)=p-q from (Rat.sub_def' p q).symm];generalize (4294967296:Nat)^L=T at *;constructor
 ·unfold rN;rw [Rat.num_mkRat,if_neg hd];refine Nat.lt_of_le_of_lt (Int.natAbs_ediv_le_natAbs _ _) ?_;have i:(p.num*(q.den:Int)-q.num*(p.den:Int)).natAbs<=p.num.natAbs*q.den+q.num.natAbs*p.den:=by
   refine Nat.le_trans (Int.natAbs_sub_le _ _) ?_;rw [Int.natAbs_mul,Int.natAbs_mul,Int.natAbs_natCast,Int.natAbs_natCast];exact zL
  unfold rN at e f;rw [a];generalize T*T=TT at *;omega
 ·rw [Rat.den_mkRat,if_neg hd];refine Nat.lt_of_le_of_lt (Nat.div_le_self _ _) ?_;rw [a];generalize T*T=TT at *;omega
end Go.Proofs.YtbfohfjobncehaaGreatDoor
