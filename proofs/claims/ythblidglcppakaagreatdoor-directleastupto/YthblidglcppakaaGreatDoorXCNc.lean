/- Contracts that the proof leans on. -/
import Derived.Test.YthblidglcppakaaGreatDoorXCSc
import Derived.Test.YthblidglcppakaaGreatDoorXSPart
import Derived.Test.YthblidglcppakaaGreatDoorXSLawF
namespace Go.Proofs.YthblidglcppakaaGreatDoor
open Go.RowKit
set_option linter.unusedVariables false
set_option linter.unusedSimpArgs false
set_option maxHeartbeats 8000000
set_option maxRecDepth 10000
theorem den_lcm (x:Rat) (c:Nat) (hc:0<c):c*(x*((c:Nat):Rat)).den∣Nat.lcm c x.den:=by
 have e:x*((c:Nat):Rat)=mkRat (x.num*(c:Nat)) x.den:=by
  rw [Rat.mul_def',Rat.num_natCast,Rat.den_natCast,Nat.mul_one]
 rw [e,Rat.den_mkRat,if_neg x.den_nz];have hg:Nat.gcd (x.num*((c:Nat):Int)).natAbs x.den=Nat.gcd c x.den:=by
  rw [Int.natAbs_mul,Int.natAbs_natCast,Nat.mul_comm];exact Nat.Coprime.gcd_mul_right_cancel c x.reduced
 have hg2:Nat.gcd x.den (x.num*((c:Nat):Int)).natAbs=Nat.gcd c x.den:=by rw [Nat.gcd_comm,hg]
 first | rw [hg] | rw [hg2]
 obtain ⟨k,hk⟩:Nat.gcd c x.den∣x.den:=Nat.gcd_dvd_right _ _;have hp:0<Nat.gcd c x.den:=Nat.gcd_pos_of_pos_left _ hc;have e1:x.den / Nat.gcd c x.den=k:=by
  apply Nat.div_eq_of_eq_mul_right hp;exact hk
 rw [e1];have e2:Nat.gcd c x.den*Nat.lcm c x.den=c*x.den:=Nat.gcd_mul_lcm _ _;have e3:Nat.gcd c x.den*(c*k)=Nat.gcd c x.den*Nat.lcm c x.den:=by
  rw [e2]
  calc Nat.gcd c x.den*(c*k)=c*(Nat.gcd c x.den*k):=by rw [Nat.mul_left_comm]
   _=c*x.den:=by rw [<- hk]
 rw [Nat.eq_of_mul_eq_mul_left hp e3];exact Nat.dvd_refl _
theorem A7 (R:Nat->Rat) (D:Nat) (h:∀ j,(R j).den∣D):∀ i,lN R i∣D:=by
 intro i;induction i with
 | zero=>exact Nat.one_dvd _
 | succ i ih=>exact Nat.dvd_trans (den_lcm (R i) (lN R i) (tp R i)) (Nat.lcm_dvd ih (h i))
theorem nr (R:Nat->Rat) (D N:Nat) (hD:0<D) (h:∀ j,(R j).den∣D) (hN:∀ j,rN (R j)<=N) (i j:Nat):rN (cD R i j)<=N*D/\(cD R i j).den<=D:=by
 refine ⟨?_,Nat.le_trans (Nat.le_of_dvd (Rat.den_pos _) (yS R i j)) (Nat.le_of_dvd hD (h j))⟩;have e:R j*((lN R i:Nat):Rat)=mkRat ((R j).num*(lN R i:Nat)) (R j).den:=by
  rw [Rat.mul_def',Rat.num_natCast,Rat.den_natCast,Nat.mul_one]
 unfold cD rN;rw [e,Rat.num_mkRat,if_neg (R j).den_nz];refine Nat.le_trans (Int.natAbs_ediv_le_natAbs _ _) ?_;rw [Int.natAbs_mul,Int.natAbs_natCast];exact Nat.mul_le_mul (hN j) (Nat.le_of_dvd hD (A7 R D h i))
def qp (v q:Rat):Prop:=∃ α β:Int,α.natAbs<=1/\β.natAbs<=1/\q=(α:Rat)+(β:Rat)*v
theorem lB {v q:Rat} (h:qp v q):q.den∣v.den/\rN q<=v.den+rN v:=by
 obtain ⟨α,β,ha,hb,rfl⟩:=h;have e:(α:Rat)+(β:Rat)*v=mkRat (α*v.den+β*v.num) v.den:=by
  have hv:v=mkRat v.num v.den:=(Rat.mkRat_self v).symm;have hd:((v.den:Nat):Rat)≠0:=by
   intro e0;have:((v.den:Nat):Rat)=((0:Nat):Rat):=e0;rw [Rat.natCast_inj] at this;exact v.den_nz this
  rw [Rat.mkRat_eq_div];have h2:(((α*v.den+β*v.num:Int)):Rat)=(α:Rat)*((v.den:Nat):Rat)+(β:Rat)*((v.num:Int):Rat):=by
   push_cast
   rfl
  rw [h2];have h3:v=((v.num:Int):Rat) / ((v.den:Nat):Rat):=by conv=>lhs;rw [<- Rat.mkRat_self v,Rat.mkRat_eq_div]
  have h4:(β:Rat)*v=(β:Rat)*((v.num:Int):Rat) / ((v.den:Nat):Rat):=by
   conv=>lhs;rw [h3]
   rw [Rat.div_def,Rat.div_def,Rat.mul_assoc]
  rw [h4,Rat.div_def,Rat.div_def,Rat.add_mul,Rat.mul_assoc (α:Rat),Rat.mul_inv_cancel _ hd,Rat.mul_one]
 rw [e];constructor
 ·rw [Rat.den_mkRat,if_neg v.den_nz];exact Nat.div_dvd_of_dvd (by first | exact Nat.gcd_dvd_right _ _ | exact Nat.gcd_dvd_left _ _)
 ·unfold rN;rw [Rat.num_mkRat,if_neg v.den_nz];refine Nat.le_trans (Int.natAbs_ediv_le_natAbs _ _) ?_;refine Nat.le_trans (Int.natAbs_add_le _ _) ?_;rw [Int.natAbs_mul,Int.natAbs_mul,Int.natAbs_natCast];have h1:α.natAbs*v.den<=1*v.den:=Nat.mul_le_mul_right _ ha;have h2:β.natAbs*v.num.natAbs<=1*v.num.natAbs:=Nat.mul_le_mul_right _ hb;omega
def gw (e:Nat->Nat):Nat->Nat
 | 0=>0
 | i+1=>gw e i+(1+e i)
theorem sE (c:Nat->Nat):∀ l l':List Nat,bm c (l++l')=bm c l*bm c l':=by
 intro l;induction l with
 | nil=>intro l';simp [bm]
 | cons a l ih=>intro l';show c a*bm c (l++l')=c a*bm c l*bm c l';rw [ih,Nat.mul_assoc]
theorem most_le (m:Nat) (hm:m<=4294967296) (e:Nat->Nat):∀ k,bm (fun r=>m*4294967296^e r) (List.range k)<=4294967296^gw e k:=by
 intro k;induction k with
 | zero=>simp [bm,gw]
 | succ k ih =>
  rw [List.range_succ,sE];show _*(m*4294967296^e k*1)<=4294967296^(gw e k+(1+e k))
  rw [Nat.mul_one,Nat.pow_add,Nat.pow_add,Nat.pow_one];exact Nat.mul_le_mul ih (Nat.mul_le_mul_right _ hm)
theorem most_lt (m L:Nat) (hm:m<=4294967296) (e:Nat->Nat) (hL:gw e m<L):gE m (fun r=>4294967296^e r)<4294967296^L:=by
 unfold gE;exact Nat.lt_of_le_of_lt (most_le m hm e m) (Nat.pow_lt_pow_right (by decide) hL)
theorem most_sq (m L M:Nat) (hm:m+1<4294967296) (h:M<4294967296^L):(m+1)*(M*M)<4294967296^(2*L+1):=by
 have h1:M*M<=4294967296^L*4294967296^L:=Nat.mul_le_mul (Nat.le_of_lt h) (Nat.le_of_lt h);have h2:(4294967296:Nat)^(2*L+1)=4294967296*(4294967296^L*4294967296^L):=by rw [Nat.pow_succ,Nat.two_mul,Nat.pow_add,Nat.mul_comm]
 rw [h2];have hp:0<(4294967296:Nat)^L*4294967296^L:=Nat.mul_pos (Nat.pow_pos (by decide)) (Nat.pow_pos (by decide))
 calc (m+1)*(M*M)<=(m+1)*(4294967296^L*4294967296^L):=Nat.mul_le_mul_left _ h1
  _<4294967296*(4294967296^L*4294967296^L):=Nat.mul_lt_mul_of_pos_right hm hp
def aI.q (p:aI):Rat:=dN p.v.data.toList
def prow (n k i:Nat) (p:aI):Nat->Rat:=k9 n i (n+k+1) p.a.toNat p.b.toNat p.c.toNat p.d.toNat (dg p.kind p.q) (dp p.kind p.q) (dh p.kind p.q) (dV p.kind p.q)
def iR (n:Nat) (ps:List aI):Nat->Nat->Rat:=fun r =>
 if r=0 then bg (fun _=>0) 0 1 else if r<n then dW n ps r else match ps[r-n]? with | some p=>prow n ps.length (r-n) p | none=>fun _=>0
def dI (n:Nat) (ps:List aI):Nat->Nat:=fun r=>if r<n then 0 else match ps[r-n]? with | some p=>2*(p.v.size+1)+1 | none=>0
structure cm (n:Nat) (ps:List aI):Prop where
 lo:1<=n
 hi:n<=8
 len:ps.length<=20
 ends:∀ p∈ps,∃ xa xb xc xd:Nat,p.a=(xa:Int)/\p.b=(xb:Int)/\p.c=(xc:Int)/\p.d=(xd:Int)/\xa<n/\xb<n/\xc<n/\xd<n
theorem xV (k:Int) (v:Rat):dg k v=0∨dg k v=1:=by
 unfold dg;repeat' split
 all_goals first | exact .inr rfl | exact .inl rfl
theorem xW (k:Int) (v:Rat):dh k v=0∨dh k v = -v:=by
 unfold dh;repeat' split
 all_goals first | exact .inl rfl | (right;grind)
theorem BT (k:Int) (v:Rat):qp v (dp k v):=by
 unfold dp;repeat' split
 all_goals first | exact ⟨0,-1,by decide,by decide,by grind⟩ | exact ⟨0,0,by decide,by decide,by grind⟩ | exact ⟨1,0,by decide,by decide,by grind⟩
theorem BU (k:Int) (v:Rat):qp v (dV k v):=by
 unfold dV;repeat' split
 all_goals first | exact ⟨0,0,by decide,by decide,by grind⟩ | exact ⟨0,1,by decide,by decide,by grind⟩
theorem pk {v q:Rat} (a b c d:Prop) [Decidable a] [Decidable b] [Decidable c] [Decidable d] {x y:Rat} (hx:x=0∨x=1) (hy:y=0∨y = -v)
  (h:q=(if a then x else 0)-(if b then x else 0)+(if c then y else 0)-(if d then y else 0)):qp v q:=by
 subst h;rcases hx with rfl | rfl<;>rcases hy with rfl | rfl<;>by_cases ha:a<;>by_cases hb:b<;>by_cases hc:c<;>by_cases hd:d <;>
  simp only [ha,hb,hc,hd,if_true,if_false] <;>
  first
   | exact ⟨0,0,by decide,by decide,by grind⟩
   | exact ⟨1,0,by decide,by decide,by grind⟩
   | exact ⟨-1,0,by decide,by decide,by grind⟩
   | exact ⟨0,1,by decide,by decide,by grind⟩
   | exact ⟨0,-1,by decide,by decide,by grind⟩
   | exact ⟨1,1,by decide,by decide,by grind⟩
   | exact ⟨1,-1,by decide,by decide,by grind⟩
   | exact ⟨-1,1,by decide,by decide,by grind⟩
   | exact ⟨-1,-1,by decide,by decide,by grind⟩
def qA (xa xb xc xd:Nat) (x y:Rat) (j:Nat):Rat:=(if j=xa then x else 0)-(if j=xb then x else 0)+(if j=xc then y else 0)-(if j=xd then y else 0)
theorem gk (R:Nat->Rat) (k:Nat) (q:Rat) (j:Nat):bg R k q j=if j=k then q else R j:=rfl
theorem Bt (xa:Nat) (x:Rat) (j:Nat):bg (fun _=>0) xa (0+x) j=if j=xa then x else 0:=by
 rw [gk,Rat.zero_add]
theorem Bu (xa xb:Nat) (x:Rat) (j:Nat):bg (bg (fun _=>0) xa (0+x)) xb (bg (fun _=>0) xa (0+x) xb-x) j=(if j=xa then x else 0)-(if j=xb then x else 0):=by
 rw [gk,Bt,Bt];by_cases e:j=xb
 ·rw [if_pos e,if_pos e,e]
 ·rw [if_neg e,if_neg e];grind
theorem Bv (xa xb xc:Nat) (x y:Rat) (j:Nat):bg (bg (bg (fun _=>0) xa (0+x)) xb (bg (fun _=>0) xa (0+x) xb-x)) xc (bg (bg (fun _=>0) xa (0+x)) xb (bg (fun _=>0) xa (0+x) xb-x) xc+y) j
  = (if j=xa then x else 0)-(if j=xb then x else 0)+(if j=xc then y else 0):=by
 rw [gk,Bu,Bu];by_cases e:j=xc
 ·rw [if_pos e,if_pos e,e]
 ·rw [if_neg e,if_neg e];grind
theorem ends4 (xa xb xc xd:Nat) (x y:Rat) (j:Nat):bg (bg (bg (bg (fun _=>0) xa (0+x)) xb (bg (fun _=>0) xa (0+x) xb-x)) xc (bg (bg (fun _=>0) xa (0+x)) xb (bg (fun _=>0) xa (0+x) xb-x) xc+y)) xd (bg (bg (bg (fun _=>0) xa (0+x)) xb (bg (fun _=>0) xa (0+x) xb-x)) xc (bg (bg (fun _=>0) xa (0+x)) xb (bg (fun _=>0) xa (0+x) xb-x) xc+y) xd-y) j
  = qA xa xb xc xd x y j:=by
 unfold qA;rw [gk,Bv,Bv];by_cases e:j=xd
 ·rw [if_pos e,if_pos e,e]
 ·rw [if_neg e,if_neg e];grind
theorem uH (n i K xa xb xc xd:Nat) (qa qf ql qs:Rat) (j:Nat):k9 n i K xa xb xc xd qa qf ql qs j=if j=K-1 then qs else if j=n+i then qf else qA xa xb xc xd qa ql j:=by
 unfold k9;rw [gk,gk,ends4]
theorem Ah {n i K xa xb xc xd:Nat} {qa qf ql qs v:Rat} (ha:qa=0∨qa=1) (hl:ql=0∨ql = -v) (hf:qp v qf) (hs:qp v qs) (j:Nat):qp v (k9 n i K xa xb xc xd qa qf ql qs j):=by
 rw [uH];split
 ·exact hs
 ·split
  ·exact hf
  ·exact pk (j=xa) (j=xb) (j=xc) (j=xd) ha hl rfl
theorem uK (n k i:Nat) (p:aI) (j:Nat):qp p.q (prow n k i p j):=Ah (xV _ _) (xW _ _) (BT _ _) (BU _ _) j
theorem bM.mono {L L':Nat} {q:Rat} (h:bM L q) (hL:L<=L'):bM L' q:=by
 have:=Nat.pow_le_pow_right (n:=4294967296) (by decide) hL;exact ⟨Nat.lt_of_lt_of_le h.1 this,Nat.lt_of_lt_of_le h.2 this⟩
theorem BX {T:Nat} {v q:Rat} (h:qp v q) (hv:bM T v):bM (T+1) q:=by
 obtain ⟨h1,h2⟩:=lB h;have hp:(4294967296:Nat)^(T+1)=4294967296^T*4294967296:=Nat.pow_succ _ _;have hq:0<(4294967296:Nat)^T:=Nat.pow_pos (by decide);have:=hv.1;have:=hv.2;have:=Nat.le_of_dvd (Rat.den_pos v) h1;exact ⟨by omega,by omega⟩
theorem Ai {L T xa xb xc xd:Nat} {qa ql v:Rat} (ha:qa=0∨qa=1) (hl:ql=0∨ql = -v) (hv:bM T v) (hL:T+1<=L) :
  bM L (0+qa)/\bM L (bg (fun _=>0) xa (0+qa) xb-qa)/\bM L (bg (bg (fun _=>0) xa (0+qa)) xb (bg (fun _=>0) xa (0+qa) xb-qa) xc+ql)
  /\ bM L (bg (bg (bg (fun _=>0) xa (0+qa)) xb (bg (fun _=>0) xa (0+qa) xb-qa)) xc (bg (bg (fun _=>0) xa (0+qa)) xb (bg (fun _=>0) xa (0+qa) xb-qa) xc+ql) xd-ql):=by
 have key:∀ q,qp v q->bM L q:=fun q h=>(BX h hv).mono hL
 refine ⟨key _ ?_,key _ ?_,key _ ?_,key _ ?_⟩
 ·exact pk True False False False ha hl (by simp only [if_true,if_false];grind)
 ·exact pk (xb=xa) True False False ha hl (by rw [Bt];simp only [if_true,if_false];grind)
 ·exact pk (xc=xa) (xc=xb) True False ha hl (by rw [Bu];simp only [if_true,if_false];grind)
 ·exact pk (xd=xa) (xd=xb) (xd=xc) True ha hl (by rw [Bv];simp only [if_true])
theorem ofR_fit (l:List UInt8):bM (l.length+1) (dN l):=by
 have hpow:∀ k,k<=l.length+1->(10:Nat)^k<=4294967296^(l.length+1):=fun k hk =>
  Nat.le_trans (Nat.pow_le_pow_left (by decide:10<=4294967296) k) (Nat.pow_le_pow_right (by decide) hk)
 have hone:1<(4294967296:Nat)^(l.length+1):=Nat.lt_of_lt_of_le (by decide:1<4294967296^1) (Nat.pow_le_pow_right (by decide) (by omega));have hz:bM (l.length+1) 0:=⟨by show 0<_;omega,by show 1<_;exact hone⟩;unfold dN;split
 ·rename_i h;simp only [Bool.and_eq_true] at h;obtain ⟨h1,h2⟩:=h;have digits:∀ m:List UInt8,bU m=true->∀ c∈m,kS c=true:=by
   intro m hm;unfold bU at hm;simp only [Bool.and_eq_true,List.all_eq_true] at hm;exact hm.2
  have d1:=sd _ (digits _ h1);have d2:=sd _ (digits _ h2);have l1:=(jY (Lib.trimPrefix l [45]) [47]).1;have l2:(ei (Lib.trimPrefix l [45])).length<=l.length+1:=by
   unfold ei;have:=(jY (Lib.trimPrefix l [45]) [47]).2;have:=iJ l [45];split
   ·omega
   ·simp
  have l3:=iJ l [45];have p1:=hpow _ (Nat.le_trans l1 (by omega));have p2:=hpow _ l2;by_cases hd:aZ (ei (Lib.trimPrefix l [45]))=0
  ·rw [hd,Rat.mkRat_zero];exact hz
  ·refine ⟨?_,?_⟩
   ·unfold rN;rw [Rat.num_mkRat,if_neg hd];refine Nat.lt_of_le_of_lt (Int.natAbs_ediv_le_natAbs _ _) ?_;have e:(fO (Lib.hasPrefix l [45]) (aZ (Lib.cut (Lib.trimPrefix l [45]) [47]).1)).natAbs=aZ (Lib.cut (Lib.trimPrefix l [45]) [47]).1:=by
     unfold fO;split<;>simp
    rw [e];omega
   ·rw [Rat.den_mkRat,if_neg hd];exact Nat.lt_of_le_of_lt (Nat.div_le_self _ _) (by omega)
 ·exact hz
theorem aI.fit (p:aI):bM (p.v.size+1) p.q:=by
 have:=ofR_fit p.v.data.toList;have e:p.v.data.toList.length=p.v.size:=Array.length_toList;rw [e] at this;exact this
theorem pB (n:Nat) (ps:List aI) (r:Nat):∃ D N:Nat,0<D/\(∀ j,(iR n ps r j).den∣D)/\(∀ j,rN (iR n ps r j)<=N)/\N*D<=4294967296^dI n ps r/\D<=4294967296^dI n ps r:=by
 unfold iR;by_cases h0:r=0
 ·rw [if_pos h0];refine ⟨1,1,by decide,fun j=>?_,fun j=>?_,by rw [Nat.mul_one];exact Nat.one_le_pow _ _ (by decide),Nat.one_le_pow _ _ (by decide)⟩
  ·rw [gk];split<;>exact Nat.dvd_refl _
  ·rw [gk];split<;>decide
 ·rw [if_neg h0];by_cases hn:r<n
  ·rw [if_pos hn];have key:∀ j,(dW n ps r j).den=1/\rN (dW n ps r j)<=1:=by
    intro j;unfold dW;split
    ·exact ⟨rfl,by decide⟩
    ·split
     ·rename_i p hp;have h3:qQ p r=0∨qQ p r=1∨qQ p r = -1:=by
       by_cases e1:p.a=(r:Int)<;>by_cases e2:p.b=(r:Int)
       ·rw [A0 e1 e2];left;grind
       ·rw [AZ e1 e2];right;left;grind
       ·rw [AY e1 e2];right;right;grind
       ·rw [AW e1 e2];left;rfl
      rcases h3 with h3 | h3 | h3<;>rw [h3]
      ·exact ⟨rfl,by decide⟩
      ·exact ⟨rfl,by decide⟩
      ·exact ⟨rfl,by decide⟩
     ·exact ⟨rfl,by decide⟩
   refine ⟨1,1,by decide,fun j=>by rw [(key j).1];exact Nat.dvd_refl _,fun j=>(key j).2,by rw [Nat.mul_one];exact Nat.one_le_pow _ _ (by decide),Nat.one_le_pow _ _ (by decide)⟩
  ·rw [if_neg hn];have he:dI n ps r=match ps[r-n]? with | some p=>2*(p.v.size+1)+1 | none=>0:=by unfold dI;rw [if_neg hn];try rfl
   cases hp:ps[r-n]? with
   | none =>
    refine ⟨1,1,by decide,fun j=>Nat.dvd_refl _,fun j=>by show 0<=1;decide,by rw [Nat.mul_one];exact Nat.one_le_pow _ _ (by decide),Nat.one_le_pow _ _ (by decide)⟩
   | some p =>
    rw [hp] at he;simp only at he;obtain ⟨f1,f2⟩:=p.fit;refine ⟨p.q.den,p.q.den+rN p.q,Rat.den_pos _,fun j=>(lB (uK n ps.length (r-n) p j)).1,fun j=>(lB (uK n ps.length (r-n) p j)).2,?_,?_⟩
    ·rw [he];have e1:(4294967296:Nat)^(2*(p.v.size+1)+1)=(4294967296*4294967296^(p.v.size+1))*4294967296^(p.v.size+1):=by
      rw [Nat.pow_succ,Nat.two_mul,Nat.pow_add,Nat.mul_comm,Nat.mul_assoc]
     rw [e1];exact Nat.mul_le_mul (by omega) (Nat.le_of_lt f2)
    ·rw [he];exact Nat.le_trans (Nat.le_of_lt f2) (Nat.pow_le_pow_right (by decide) (by omega))
theorem sN (e:Nat->Nat):∀ m r,r<m->1+e r<=gw e m:=by
 intro m;induction m with
 | zero=>intro r h;omega
 | succ m ih =>
  intro r h;unfold gw;by_cases e1:r=m
  ·subst e1;omega
  ·have:=ih r (by omega);omega
theorem net_fit (n:Nat) (ps:List aI) (m L:Nat) (hL:gw (dI n ps) m<L) (r:Nat) (hr:r<m) (k j:Nat):bM L (cD (iR n ps r) k j):=by
 obtain ⟨D,N,h1,h2,h3,h4,h5⟩:=pB n ps r;obtain ⟨b1,b2⟩:=nr _ D N h1 h2 h3 k j;have hlt:4294967296^dI n ps r<4294967296^L:=Nat.pow_lt_pow_right (by decide) (by have:=sN (dI n ps) m r hr;omega);exact ⟨by omega,by omega⟩
theorem net_wh (n:Nat) (ps:List aI) (k r j:Nat):mF (4294967296^dI n ps r) (qj (iR n ps) k r j):=by
 unfold qj;split
 ·rename_i hj;obtain ⟨D,N,h1,h2,h3,h4,h5⟩:=pB n ps r;exact ⟨tq _ _ _ hj,Nat.le_trans (nr _ D N h1 h2 h3 k j).1 h4⟩
 ·exact ⟨rfl,Nat.zero_le _⟩
def bC (f:Nat->Rat):Nat->Rat
 | 0=>0
 | i+1=>bC f i+f i
theorem aP (f:Nat->Rat) (k:Nat):bC f (k+1)=bC f k+f k:=rfl
theorem ik (x R:Nat->Rat) (k:Nat) (q:Rat):∀ n,cX n x (bg R k q)=cX n x R+(if k<n then (q-R k)*x k else 0):=by
 intro n;induction n with
 | zero=>unfold cX;rw [if_neg (by omega)];grind
 | succ n ih =>
  unfold cX;rw [ih,gk];by_cases e:n=k
  ·subst e;rw [if_pos rfl,if_neg (by omega),if_pos (by omega)];grind
  ·rw [if_neg e];by_cases e2:k<n
   ·rw [if_pos e2,if_pos (by omega)];grind
   ·rw [if_neg e2,if_neg (by omega)];grind
theorem lT (x:Nat->Rat):∀ n,cX n x (fun _=>0)=0:=by
 intro n;induction n with
 | zero=>rfl
 | succ n ih=>unfold cX;rw [ih];grind
theorem dot_end (x:Nat->Rat) (xa xb xc xd:Nat) (p q:Rat) (n:Nat) (ha:xa<n) (hb:xb<n) (hc:xc<n) (hd:xd<n):cX n x (qA xa xb xc xd p q)=p*(x xa-x xb)+q*(x xc-x xd):=by
 have e:cX n x (qA xa xb xc xd p q)=cX n x (bg (bg (bg (bg (fun _=>0) xa (0+p)) xb (bg (fun _=>0) xa (0+p) xb-p)) xc (bg (bg (fun _=>0) xa (0+p)) xb (bg (fun _=>0) xa (0+p) xb-p) xc+q)) xd (bg (bg (bg (fun _=>0) xa (0+p)) xb (bg (fun _=>0) xa (0+p) xb-p)) xc (bg (bg (fun _=>0) xa (0+p)) xb (bg (fun _=>0) xa (0+p) xb-p) xc+q) xd-q)) :=
  gQ x n (fun j _=>(ends4 xa xb xc xd p q j).symm)
 rw [e,ik,ik,ik,ik,lT,if_pos ha,if_pos hb,if_pos hc,if_pos hd];generalize bg (bg (bg (fun _=>0) xa (0+p)) xb (bg (fun _=>0) xa (0+p) xb-p)) xc (bg (bg (fun _=>0) xa (0+p)) xb (bg (fun _=>0) xa (0+p) xb-p) xc+q) xd=A;generalize bg (bg (fun _=>0) xa (0+p)) xb (bg (fun _=>0) xa (0+p) xb-p) xc=B;generalize bg (fun _=>0) xa (0+p) xb=C;grind
theorem tR (x:Nat->Rat) (n k i xa xb xc xd:Nat) (qa qf ql qs:Rat) (hi:i<k) (ha:xa<n) (hb:xb<n) (hc:xc<n) (hd:xd<n) :
  cX (n+k+1) x (k9 n i (n+k+1) xa xb xc xd qa qf ql qs)=qa*(x xa-x xb)+ql*(x xc-x xd)+qf*x (n+i)+qs*x (n+k):=by
 have e:cX (n+k+1) x (k9 n i (n+k+1) xa xb xc xd qa qf ql qs)=cX (n+k+1) x (bg (bg (qA xa xb xc xd qa ql) (n+i) qf) (n+k) qs) :=
  gQ x _ (fun j _=>by rw [uH,gk,gk];rfl)
 rw [e,ik,ik,dot_end x xa xb xc xd qa ql _ (by omega) (by omega) (by omega) (by omega),if_pos (by omega),if_pos (by omega),gk,if_neg (by omega)];have z1:qA xa xb xc xd qa ql (n+i)=0:=by
  unfold qA;rw [if_neg (by omega),if_neg (by omega),if_neg (by omega),if_neg (by omega)];grind
 have z2:qA xa xb xc xd qa ql (n+k)=0:=by
  unfold qA;rw [if_neg (by omega),if_neg (by omega),if_neg (by omega),if_neg (by omega)];grind
 rw [z1,z2];grind
def cW (ps:List aI) (i r:Nat):Rat:=match ps[i]? with | some p=>qQ p r | none=>0
theorem tQ (x:Nat->Rat) (n:Nat) (ps:List aI) (r:Nat):cX (n+ps.length+1) x (dW n ps r)=bC (fun i=>cW ps i r*x (n+i)) ps.length:=by
 have key:∀ k,k<=ps.length->cX (n+k) x (dW n ps r)=bC (fun i=>cW ps i r*x (n+i)) k:=by
  intro k;induction k with
  | zero =>
   intro _;show cX n x (dW n ps r)=0
   rw [<- lT x n];exact gQ x n (fun j hj=>by unfold dW;rw [if_pos hj])
  | succ k ih =>
   intro hk;show cX (n+k) x (dW n ps r)+dW n ps r (n+k)*x (n+k)=_
   rw [ih (by omega),aP];congr 1
   unfold dW;rw [if_neg (by omega),show n+k-n=k by omega];rfl
 show cX (n+ps.length) x (dW n ps r)+dW n ps r (n+ps.length)*x (n+ps.length)=_
 rw [key _ (Nat.le_refl _)];have z:dW n ps r (n+ps.length)=0:=by
  unfold dW;rw [if_neg (by omega),show n+ps.length-n=ps.length by omega,List.getElem?_eq_none (Nat.le_refl _)]
 rw [z];grind
structure aM (n:Nat) (ps:List aI) (V I:Nat->Rat):Prop where
 gnd:V 0=0
 node:∀ r,0<r->r<n->bC (fun i=>cW ps i r*I i) ps.length=0
 part:∀ i (h:i<ps.length),dg ps[i].kind ps[i].q*(V ps[i].a.toNat-V ps[i].b.toNat)+dh ps[i].kind ps[i].q*(V ps[i].c.toNat-V ps[i].d.toNat)+dp ps[i].kind ps[i].q*I i=dV ps[i].kind ps[i].q
theorem kL {n:Nat} {ps:List aI} (h:cm n ps) (x:Nat->Rat):mD (iR n ps) (n+ps.length) x↔x (n+ps.length) = -1/\aM n ps x (fun i=>x (n+i)):=by
 have hlo:=h.lo;have e0:cX (n+ps.length+1) x (iR n ps 0)=x 0:=by
  unfold iR;rw [if_pos rfl,ik,lT,if_pos (by omega)];grind
 have en:∀ r,0<r->r<n->cX (n+ps.length+1) x (iR n ps r)=bC (fun i=>cW ps i r*x (n+i)) ps.length:=by
  intro r h0 hn;unfold iR;rw [if_neg (by omega),if_pos hn];exact tQ x n ps r
 have ep:∀ i (hi:i<ps.length),cX (n+ps.length+1) x (iR n ps (n+i))=dg ps[i].kind ps[i].q*(x ps[i].a.toNat-x ps[i].b.toNat)+dh ps[i].kind ps[i].q*(x ps[i].c.toNat-x ps[i].d.toNat)+dp ps[i].kind ps[i].q*x (n+i)+dV ps[i].kind ps[i].q*x (n+ps.length):=by
  intro i hi;obtain ⟨xa,xb,xc,xd,ea,eb,ec,ed,ha,hb,hc,hd⟩:=h.ends ps[i] (List.getElem_mem hi);unfold iR;rw [if_neg (by omega),if_neg (by omega),show n+i-n=i by omega,List.getElem?_eq_getElem hi];exact tR x n ps.length i _ _ _ _ _ _ _ _ hi (by rw [ea];simpa using ha) (by rw [eb];simpa using hb) (by rw [ec];simpa using hc) (by rw [ed];simpa using hd)
 constructor
 ·rintro ⟨h1,h2⟩;refine ⟨h1,⟨?_,fun r h0 hn=>?_,fun i hi=>?_⟩⟩
  ·rw [<- e0];exact h2 0 (by omega)
  ·rw [<- en r h0 hn];exact h2 r (by omega)
  ·have:=h2 (n+i) (by omega);rw [ep i hi,h1] at this;grind
 ·rintro ⟨h1,h2⟩;refine ⟨h1,fun r hr=>?_⟩;by_cases r0:r=0
  ·subst r0;rw [e0];exact h2.gnd
  ·by_cases rn:r<n
   ·rw [en r (by omega) rn];exact h2.node r (by omega) rn
   ·obtain ⟨i,rfl⟩:∃ i,r=n+i:=⟨r-n,by omega⟩;have hi:i<ps.length:=by omega
    have:=h2.part i hi;rw [ep i hi,h1];grind
end Go.Proofs.YthblidglcppakaaGreatDoor
