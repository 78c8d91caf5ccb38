/- Contracts that the proof leans on. -/
import Derived.Test.YtkhgaelnglndiaaGreatDoorXCDa
import Derived.Test.YtkhgaelnglndiaaGreatDoorXCFd
namespace Go.Proofs.YtkhgaelnglndiaaGreatDoor
open Go.RowKit
set_option linter.unusedVariables false
set_option linter.unusedSimpArgs false
set_option maxHeartbeats 8000000
set_option maxRecDepth 10000
theorem fix_fits {n:Nat} {ps:List Prt} (hR:RightN n ps) (hF:Fixed n ps) {L:Nat} (hL:sumE (netE n ps) (n+ps.length)<L) {V I:Nat->Rat} (h:NetSol n ps V I) :
  (∀ j,j<n->QFit (V j) L)/\∀ i,i<ps.length->QFit (I i) L:=by
 obtain ⟨x,hx,hxv,hxi⟩:=sol_of_net hR h;obtain ⟨m,hm⟩:∃ m,m=n+ps.length:=⟨_,rfl⟩;rw [<- hm] at hx hL;have hn1:=hR.lo;have hn8:=hR.hi;have hl20:=hR.len;have hs:Sol (whoW (netW n ps) (m+1)) m x:=(sol_who _ _ _).2 hx;obtain ⟨done,perm,order,R,d,s,hst,hd⟩:=elim_end (whoW (netW n ps) (m+1)) m;have hfull:done=m:=by
  rcases hd with hd | ⟨hd,hz⟩
  ·exact hd
  ·exfalso
   by_cases hn:∀ i,done<=i->i<m->R i m=0
   ·obtain ⟨y,z,hy,hz',j,hj,hne⟩:=st_many hst hd hz hn;obtain ⟨V0,I0,_,hu⟩:=one_of_fixed hR hF;have ky:=((sol_net hR y).1 (by rw [<- hm];exact (sol_who _ _ _).1 hy)).2;have kz:=((sol_net hR z).1 (by rw [<- hm];exact (sol_who _ _ _).1 hz')).2;obtain ⟨a1,b1⟩:=hu _ _ ky;obtain ⟨a2,b2⟩:=hu _ _ kz;by_cases hjn:j<n
    ·exact hne (by rw [a1 j hjn,a2 j hjn])
    ·have e1:y (n+(j-n))=I0 (j-n):=b1 (j-n) (by omega);have e2:z (n+(j-n))=I0 (j-n):=b2 (j-n) (by omega);rw [show n+(j-n)=j by omega] at e1 e2;exact hne (by rw [e1,e2])
   ·have:∃ i,done<=i/\i<m/\R i m≠0:=by
     apply Classical.byContradiction;intro hno;apply hn;intro i h1 h2;apply Classical.byContradiction;intro h3;exact hno ⟨i,h1,h2,h3⟩
    obtain ⟨i,h1,h2,h3⟩:=this;exact st_none hst hz h1 h2 h3 ⟨x,hs⟩
 subst hfull;have hb:∀ r,1<=4294967296^netE n ps r:=fun r=>Nat.one_le_pow _ _ (by decide)
 have hB:∀ r j,WhR (4294967296^netE n ps r) (whoW (netW n ps) (done+1) r j):=net_wh n ps (done+1);obtain ⟨y,hy,hu,hw,_⟩:=st_full whR_isWh hst hb hB;have hwd:=st_wh_d whR_isWh hst (by omega) hb hB;have hM:=most_lt done L (by omega) (netE n ps) hL;have key:∀ j,j<done->FitW L (y j):=by
  intro j hj;obtain ⟨t,ht,e⟩:=List.mem_iff_getElem.1 (hst.om j hj);have ht2:t<done:=by rw [<- hst.ol];exact ht
  have e2:order.getD t 0=j:=by rw [List.getD_eq_getElem?_getD,List.getElem?_eq_getElem ht];exact e
  have hq:=fitW_quo hM (hw t ht2) hwd hst.dn;rw [e2] at hq;have e3:d*y j / d=y j:=by
   have:=hst.dn;rw [Rat.mul_comm,Rat.div_def,Rat.mul_assoc,Rat.mul_inv_cancel _ this,Rat.mul_one]
  rw [e3] at hq;exact hq
 refine ⟨fun j hj=>?_,fun i hi=>?_⟩
 ·rw [<- hxv j hj,hu x hs j (by omega)];exact key j (by omega)
 ·rw [<- hxi i hi,hu x hs (n+i) (by omega)];exact key (n+i) (by omega)
theorem QFit.sub {p q:Rat} {L:Nat} (hp:QFit p L) (hq:QFit q L):QFit (p-q) (2*L+1):=by
 obtain ⟨p1,p2⟩:=hp;obtain ⟨q1,q2⟩:=hq;have hd:p.den*q.den≠0:=Nat.mul_ne_zero (Nat.ne_of_gt p.den_pos) (Nat.ne_of_gt q.den_pos);have e1:(4294967296:Nat)^(2*L+1)=4294967296*(4294967296^L*4294967296^L):=by
  rw [Nat.pow_succ,Nat.two_mul,Nat.pow_add,Nat.mul_comm]
 have b0:=Nat.mul_lt_mul'' p2 q2;have b1:=Nat.mul_lt_mul'' p1 q2;have b2:=Nat.mul_lt_mul'' q1 p2;rw [<- show mkRat (p.num*(q.den:Int)-q.num*(p.den:Int)) (p.den*q.den)=p-q from (Rat.sub_def' p q).symm];generalize (4294967296:Nat)^L=T at *;constructor
 ·unfold rN;rw [Rat.num_mkRat,if_neg hd];refine Nat.lt_of_le_of_lt (Int.natAbs_ediv_le_natAbs _ _) ?_;have t1:(p.num*(q.den:Int)-q.num*(p.den:Int)).natAbs<=p.num.natAbs*q.den+q.num.natAbs*p.den:=by
   refine Nat.le_trans (Int.natAbs_sub_le _ _) ?_;rw [Int.natAbs_mul,Int.natAbs_mul,Int.natAbs_natCast,Int.natAbs_natCast];exact Nat.le_refl _
  unfold rN at b1 b2;rw [e1];generalize T*T=TT at *;omega
 ·rw [Rat.den_mkRat,if_neg hd];refine Nat.lt_of_le_of_lt (Nat.div_le_self _ _) ?_;rw [e1];generalize T*T=TT at *;omega
end Go.Proofs.YtkhgaelnglndiaaGreatDoor
