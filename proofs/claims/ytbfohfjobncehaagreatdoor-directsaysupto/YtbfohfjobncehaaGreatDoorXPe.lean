/- Contracts. -/
import Derived.Test.YtbfohfjobncehaaGreatDoorXPa
import Derived.Lib.ItoaNum
namespace Go.Proofs.YtbfohfjobncehaaGreatDoor
open Go.RowKit
set_option linter.all false
set_option maxHeartbeats 8000000
set_option maxRecDepth 10000
variable {P:Nat->Nat} {n r c k done i:Nat} {m W R:Nat->Nat->Rat} {perm order ρ l:List Nat} {d s b a:Rat} {Wh:Nat->Rat->Prop} {S R' f:Nat->Rat}
def fY (b:Bool) (n:Nat):Int:=if b then -(n:Int) else n
theorem Eu (x:Int):fY (decide (x<0)) x.natAbs=x:=by
 unfold fY;by_cases h:x<0
 ·simp [h];omega
 ·simp [h];omega
theorem pr (b:Bool) (n:Nat):(fY b n).natAbs=n:=by unfold fY;cases b<;>simp
theorem sgq_neg (b:Bool) (n:Nat) (h:n≠0):decide (fY b n<0)=b:=by
 unfold fY;cases b<;>simp<;>omega
theorem mk_zero (b:Bool) (n d:Nat) (h:n=0∨d=0):mkRat (fY b n) d=0:=by
 rcases h with h | h
 ·subst h;have:fY b 0=0:=by unfold fY;cases b<;>rfl
  rw [this,Rat.zero_mkRat]
 ·subst h;rw [Rat.mkRat_zero]
theorem vI (b:Bool) (n d:Nat) (hn:n≠0) (hd:d≠0) :
  decide ((mkRat (fY b n) d).num<0)=b/\(mkRat (fY b n) d).num.natAbs=n / Nat.gcd n d/\(mkRat (fY b n) d).den=d / Nat.gcd n d:=by
 have hg:0<Nat.gcd n d:=Nat.gcd_pos_of_pos_left _ O;have o:((Nat.gcd n d:Nat):Int)∣fY b n:=by
  rw [<- Int.dvd_natAbs,pr];exact Int.natCast_dvd_natCast.2 (Nat.gcd_dvd_left n d)
 have j:(mkRat (fY b n) d).num=fY b n / (Nat.gcd n d:Nat):=by
  rw [Rat.num_mkRat,if_neg hd,pr,Nat.gcd_comm]
 have p:(mkRat (fY b n) d).den=d / Nat.gcd n d:=by
  rw [Rat.den_mkRat,if_neg hd,pr,Nat.gcd_comm d n]
 have g:(fY b n / (Nat.gcd n d:Nat)).natAbs=n / Nat.gcd n d:=by
  rw [Int.natAbs_ediv_of_dvd o,pr,Int.natAbs_natCast]
 have t:0<n / Nat.gcd n d:=Nat.div_pos (Nat.le_of_dvd O (Nat.gcd_dvd_left n d)) hg;refine ⟨?_,by rw [j,g],p⟩;rw [j];have e:fY b n=(fY b n / (Nat.gcd n d:Nat))*(Nat.gcd n d:Nat):=(Int.ediv_mul_cancel o).symm;have u:fY b n / (Nat.gcd n d:Nat)≠0:=by
  intro w;rw [w] at g;simp at g;omega
 have v:=sgq_neg b n hn;refine Eq.trans ?_ v;rw [Bool.eq_iff_iff,decide_eq_true_eq,decide_eq_true_eq];constructor
 ·intro h;rw [e];exact Int.mul_neg_of_neg_of_pos h O
 ·intro h;rw [e] at h;rcases Int.lt_trichotomy (fY b n / (Nat.gcd n d:Nat)) 0 with q | q | q
  ·exact q
  ·exact absurd q u
  ·exact absurd h (by have:=Int.mul_pos q (show (0:Int)<(Nat.gcd n d:Nat) by omega);omega)
def rB (q:Rat):Bool:=decide (q.num<0)
def rN (q:Rat):Nat:=q.num.natAbs
theorem fC (q:Rat):fY (rB q) (rN q)=q.num:=Eu _
theorem sgq_mul (a b:Bool) (m n:Nat):fY (a != b) (m*n)=fY a m*fY b n:=by
 unfold fY;cases a<;>cases b<;>simp<;>grind
theorem q_mul (x y:Rat):mkRat (fY (rB x != rB y) (rN x*rN y)) (x.den*y.den)=x*y:=by
 rw [sgq_mul,fC,fC,Rat.mul_def']
theorem fk (b:Bool) (m n:Nat):fY b (m*n)=fY b m*n:=by
 unfold fY;cases b<;>simp
 grind
theorem DT (x y:Rat):mkRat (fY (rB x != rB y) (rN x*y.den)) (rN y*x.den)=x / y:=by
 by_cases hy:y=0
 ·subst hy;rw [show rN 0*x.den=0 by simp [rN],Rat.mkRat_zero,Rat.div_def,Rat.inv_zero,Rat.mul_zero]
 ·have g:y.num≠0:=fun h=>hy (Rat.num_eq_zero.1 h)
  have j:rN y≠0:=by unfold rN;omega
  have e:x / y=Rat.divInt (x.num*y.den) (x.den*y.num):=by
   rw [Rat.div_def,Rat.inv_def,<- Rat.divInt_mul_divInt,Rat.num_divInt_den]
  rw [e,<- Rat.divInt_ofNat,Rat.divInt_eq_divInt_iff (by have:=x.den_nz;simp;omega) (by
   have:=x.den_nz;intro h;rcases Int.mul_eq_zero.1 h with h | h
   ·omega
   ·exact g h)]
  rw [fk];have o:fY (rB x != rB y) (rN x)*y.num=x.num*(rN y:Nat):=by
   have p:=fC x;have q:=fC y;rw [<- p,<- q];unfold fY;cases rB x<;>cases rB y<;>simp<;>grind
  rw [Int.natCast_mul]
  calc fY (rB x != rB y) (rN x)*(y.den:Int)*((x.den:Int)*y.num)=(fY (rB x != rB y) (rN x)*y.num)*((y.den:Int)*x.den):=by grind
   _=x.num*(rN y:Nat)*((y.den:Int)*x.den):=by rw [o]
   _=x.num*(y.den:Int)*((rN y:Int)*(x.den:Int)):=by grind
theorem q_ne {x:Rat} (h:x≠0):rN x≠0:=by
 have:x.num≠0:=fun e=>h (Rat.num_eq_zero.1 e)
 unfold rN;omega
theorem DU {x:Rat} (h:rN x=0):x=0:=by
 refine Rat.num_eq_zero.1 ?_;unfold rN at h;omega
open Go.Lib
def tJ:Nat->Nat->List UInt8
 | 0,_=>[]
 | k+1,c=>tJ k (c / 10)++[UInt8.ofNat (48+c % 10)]
theorem p9 {u:Nat} (h:¬ u<10):decDigits u=decDigits (u / 10)++[UInt8.ofNat (48+u % 10)]:=by rw [decDigits,dif_neg h]
theorem dec_pad (k q c:Nat) (e:0<q) (hc:c<10^k):decDigits (q*10^k+c)=decDigits q++tJ k c:=by
 induction k generalizing c with
 | zero =>
  have:c=0:=by simpa using hc
  subst this;simp [tJ]
 | succ k ih =>
  have h:0<10^k:=Nat.pow_pos zD;have j:10^k<=q*10^k:=Nat.le_mul_of_pos_left _ e;rw [Nat.pow_succ] at hc ⊢;have hd:(q*(10^k*10)+c) / 10=q*10^k+c / 10:=by
   rw [<- Nat.mul_assoc];omega
  have g:(q*(10^k*10)+c) % 10=c % 10:=by
   rw [<- Nat.mul_assoc];omega
  rw [p9 (by rw [<- Nat.mul_assoc];omega),hd,g,ih (c / 10) O,tJ,List.append_assoc]
theorem BF (k:Nat):tJ k 0=List.replicate k 48:=by
 induction k with
 | zero=>rfl
 | succ k ih =>
  rw [tJ,show (0:Nat) / 10=0 from rfl,ih,List.replicate_succ'];rfl
theorem padD_eq (k c:Nat) (j:0<k) (hc:c<10^k):tJ k c=List.replicate (k-(decDigits c).length) 48++decDigits c:=by
 induction k generalizing c with
 | zero=>omega
 | succ k ih =>
  rw [Nat.pow_succ] at hc;by_cases h:c<10
  ·rw [tJ,show c / 10=0 by omega,BF,decDigits_one h,List.length_singleton,show k+1-1=k by omega,Nat.mod_eq_of_lt h]
  ·have e:0<k:=by
    rcases zP k with g | g
    ·subst g;simp at hc;omega
    ·exact g
   rw [tJ,ih (c / 10) e O,p9 h,List.length_append,List.length_singleton,List.append_assoc,show k+1-((decDigits (c / 10)).length+1)=k-(decDigits (c / 10)).length by omega]
theorem mr (j:0<k) (hc:c<10^k):nDigits c<=k:=by
 induction k generalizing c with
 | zero=>omega
 | succ k ih =>
  rw [Nat.pow_succ] at hc;by_cases h:c<10
  ·rw [nDigits_small h];omega
  ·rw [nDigits_big h];have e:0<k:=by
    rcases zP k with g | g
    ·subst g;simp at hc;omega
    ·exact g
   have:=ih e (show c / 10<10^k by omega);omega
theorem p7 (e:0<k) (hc:c<10^k):(decDigits c).length<=k:=by
 rw [decDigits_length];exact mr e hc
def dY (B:Nat):List Nat->Nat
 | []=>0
 | c :: r=>c+B*dY B r
theorem kG (B:Nat) (l:List Nat) (c:Nat):dY B (l++[c])=dY B l+B^l.length*c:=by
 induction l with
 | nil=>simp [dY]
 | cons x r ih =>
  simp only [List.cons_append,dY,ih,List.length_cons,Nat.pow_succ];rw [Nat.mul_add,<- Nat.mul_assoc,Nat.mul_comm B (B^r.length)];omega
def me (l:List Nat) (i:Nat):List UInt8:=decDigits (dY 1000000000 (l.drop i))
theorem n9 (l:List Nat) (i:Nat) (hi:i+1<l.length) (hc:l[i]'O<1000000000) (e:0<dY 1000000000 (l.drop (i+1))) :
  me l i=me l (i+1)++(List.replicate (9-(decDigits (l[i]'O)).length) 48++decDigits (l[i]'O)):=by
 unfold me;rw [List.drop_eq_getElem_cons (by omega:i<l.length),dY,<- padD_eq 9 _ zD hc,Nat.add_comm,Nat.mul_comm];exact dec_pad 9 _ _ e hc
theorem n8 (l:List Nat) (i:Nat) (hi:i+1=l.length):me l i=decDigits (l[i]'O):=by
 unfold me;rw [List.drop_eq_getElem_cons (by omega:i<l.length),List.drop_of_length_le O];simp [dY]
def kv (b1:Bool) (m:Nat) (b2:Bool) (n:Nat):Bool:=if b1=b2 then b1 else if m<n then b2 else b1 && decide (0<m-n)
def iX (b1:Bool) (m:Nat) (b2:Bool) (n:Nat):Nat:=if b1=b2 then m+n else if m<n then n-m else m-n
theorem Ay (e:Bool) (m:Nat) (g:Bool) (n:Nat):fY (kv e m g n) (iX e m g n)=fY e m+fY g n:=by
 unfold kv iX fY;by_cases h:e=g
 ·subst h;rw [if_pos rfl,if_pos rfl];cases e<;>simp<;>omega
 ·rw [if_neg h,if_neg h];by_cases j:m<n
  ·rw [if_pos j,if_pos j];cases e<;>cases g<;>simp_all<;>omega
  ·rw [if_neg j,if_neg j];by_cases o:0<m-n
   ·cases e<;>cases g<;>simp_all<;>omega
   ·have:m=n:=O
    subst this;cases e<;>cases g<;>simp_all<;>omega
theorem Ax (e:Bool) (m:Nat) (g:Bool) (n:Nat) (o:e=true->0<m) (p:g=true->0<n):kv e m g n=true->0<iX e m g n:=by
 unfold kv iX;by_cases h:e=g
 ·subst h;rw [if_pos rfl,if_pos rfl];intro hb;have:=o hb;omega
 ·rw [if_neg h,if_neg h];by_cases j:m<n
  ·rw [if_pos j,if_pos j];intro _;omega
  ·rw [if_neg j,if_neg j];simp
theorem tY (g:Bool) (m:Nat) (j:Bool) (n:Nat) (h:k∣iX g m j n) (hn:k∣n):k∣m:=by
 unfold iX at h;by_cases e:g=j
 ·rw [if_pos e] at h;exact (Nat.dvd_add_left hn).1 h
 ·rw [if_neg e] at h;by_cases o:m<n
  ·rw [if_pos o] at h;have:m=n-(n-m):=O
   rw [this];exact Nat.dvd_sub hn h
  ·rw [if_neg o] at h;have:m=(m-n)+n:=O
   rw [this];exact Nat.dvd_add h hn
theorem rz (j:Bool) (m:Nat) (o:Bool) (n:Nat) (h:k∣iX j m o n) (g:k∣m):k∣n:=by
 unfold iX at h;by_cases e:j=o
 ·rw [if_pos e] at h;exact (Nat.dvd_add_right g).1 h
 ·rw [if_neg e] at h;by_cases p:m<n
  ·rw [if_pos p] at h;have:n=(n-m)+m:=O
   rw [this];exact Nat.dvd_add h g
  ·rw [if_neg p] at h;have:n=m-(m-n):=O
   rw [this];exact Nat.dvd_sub g h
def j9 (b1:Bool) (n1 d1:Nat) (b2:Bool) (n2 d2:Nat):Nat:=iX b1 (n1*(d2 / Nat.gcd d1 d2)) b2 (n2*(d1 / Nat.gcd d1 d2))
def DL (b1:Bool) (n1 d1:Nat) (b2:Bool) (n2 d2:Nat):Bool:=kv b1 (n1*(d2 / Nat.gcd d1 d2)) b2 (n2*(d1 / Nat.gcd d1 d2))
theorem vT (p q:Bool) {j g o e:Nat} (U:Nat.gcd j g=1) (V:Nat.gcd o e=1) (X:0<g) (p2:0<e) :
  0<g / Nat.gcd g e*(e / Nat.gcd (j9 p j g q o e) (Nat.gcd g e))
  /\ Nat.gcd (j9 p j g q o e / Nat.gcd (j9 p j g q o e) (Nat.gcd g e)) (g / Nat.gcd g e*(e / Nat.gcd (j9 p j g q o e) (Nat.gcd g e)))=1:=by
 obtain ⟨T,Q⟩:=eX (j9 p j g q o e);obtain ⟨G,u⟩:=eX (Nat.gcd g e);obtain ⟨x,ex⟩:=eX (g / G);obtain ⟨y,J⟩:=eX (e / G);have B:0<G:=by rw [u];exact Nat.gcd_pos_of_pos_left _ X
 have K:g=G*x:=by rw [ex,u];exact (Nat.mul_div_cancel' (Nat.gcd_dvd_left g e)).symm
 have C:e=G*y:=by rw [J,u];exact (Nat.mul_div_cancel' (Nat.gcd_dvd_right g e)).symm
 have w:Nat.Coprime x y:=by rw [ex,J,u];exact Nat.coprime_div_gcd_div_gcd (by rw [<- u];exact B)
 have L:T=iX p (j*y) q (o*x):=by rw [Q,ex,J,u];rfl
 rw [<- Q,<- u,<- ex];obtain ⟨H,v⟩:=eX (Nat.gcd T G);rw [<- v];have M:0<H:=by rw [v];exact Nat.gcd_pos_of_pos_right _ B
 have z:H∣G:=by rw [v];exact Nat.gcd_dvd_right _ _
 have D:H∣T:=by rw [v];exact Nat.gcd_dvd_left _ _
 have Y:e / H=G / H*y:=by rw [C,Nat.mul_comm,Nat.mul_div_assoc _ z,Nat.mul_comm]
 have px:0<x:=by
  rcases zP x with h | h
  ·rw [h,Nat.mul_zero] at K;omega
  ·exact h
 have py:0<y:=by
  rcases zP y with h | h
  ·rw [h,Nat.mul_zero] at C;omega
  ·exact h
 have cx:Nat.Coprime T x:=by
  have k1:Nat.gcd T x∣T:=Nat.gcd_dvd_left _ _;have t:Nat.gcd T x∣x:=Nat.gcd_dvd_right _ _;have E:Nat.gcd T x∣j*y:=tY p _ q _ (by rw [<- L];exact k1) (Nat.dvd_trans t (Nat.dvd_mul_left _ _));have F:Nat.Coprime (Nat.gcd T x) y:=Nat.Coprime.coprime_dvd_left t w;have I:Nat.gcd T x∣j:=Nat.Coprime.dvd_of_dvd_mul_right F E;have A:Nat.gcd T x∣Nat.gcd j g:=Nat.dvd_gcd I (Nat.dvd_trans t (by rw [K];exact Nat.dvd_mul_left _ _));rw [U] at A;exact Nat.dvd_one.1 A
 have cy:Nat.Coprime T y:=by
  have k1:Nat.gcd T y∣T:=Nat.gcd_dvd_left _ _;have t:Nat.gcd T y∣y:=Nat.gcd_dvd_right _ _;have E:Nat.gcd T y∣o*x:=rz p _ q _ (by rw [<- L];exact k1) (Nat.dvd_trans t (Nat.dvd_mul_left _ _));have F:Nat.Coprime (Nat.gcd T y) x:=Nat.Coprime.coprime_dvd_left t w.symm;have I:Nat.gcd T y∣o:=Nat.Coprime.dvd_of_dvd_mul_right F E;have A:Nat.gcd T y∣Nat.gcd o e:=Nat.dvd_gcd I (Nat.dvd_trans t (by rw [C];exact Nat.dvd_mul_left _ _));rw [V] at A;exact Nat.dvd_one.1 A
 have N:T / H∣T:=Nat.div_dvd_of_dvd D;have c1:Nat.Coprime (T / H) x:=Nat.Coprime.coprime_dvd_left N cx;have c2:Nat.Coprime (T / H) y:=Nat.Coprime.coprime_dvd_left N cy;have c3:Nat.Coprime (T / H) (G / H):=by
  have hh:0<Nat.gcd T G:=by rw [<- v];exact M
  have:=Nat.coprime_div_gcd_div_gcd hh;rw [<- v] at this;exact this
 rw [Y];refine ⟨Nat.mul_pos px (Nat.mul_pos (Nat.div_pos (Nat.le_of_dvd B z) M) py),?_⟩;exact Nat.Coprime.mul_right c1 (Nat.Coprime.mul_right c3 c2)
theorem Aj (p q:Rat) :
  mkRat (fY (DL (rB p) (rN p) p.den (rB q) (rN q) q.den) (j9 (rB p) (rN p) p.den (rB q) (rN q) q.den / Nat.gcd (j9 (rB p) (rN p) p.den (rB q) (rN q) q.den) (Nat.gcd p.den q.den)))
   (p.den / Nat.gcd p.den q.den*(q.den / Nat.gcd (j9 (rB p) (rN p) p.den (rB q) (rN q) q.den) (Nat.gcd p.den q.den)))=p+q:=by
 obtain ⟨T,x⟩:=eX (j9 (rB p) (rN p) p.den (rB q) (rN q) q.den);obtain ⟨B,y⟩:=eX (DL (rB p) (rN p) p.den (rB q) (rN q) q.den);obtain ⟨G,e⟩:=eX (Nat.gcd p.den q.den);have z:0<p.den:=p.den_pos;have j:0<G:=by rw [e];exact Nat.gcd_pos_of_pos_left _ z
 have w:G*(p.den / G)=p.den:=by rw [e];exact Nat.mul_div_cancel' (Nat.gcd_dvd_left _ _)
 have A:G*(q.den / G)=q.den:=by rw [e];exact Nat.mul_div_cancel' (Nat.gcd_dvd_right _ _)
 have C:fY B T=fY (rB p) (rN p*(q.den / G))+fY (rB q) (rN q*(p.den / G)):=by
  rw [y,x,e];exact Ay _ _ _ _
 rw [<- x,<- y,<- e];obtain ⟨H,h⟩:=eX (Nat.gcd T G);rw [<- h];have D:0<H:=by rw [h];exact Nat.gcd_pos_of_pos_right _ j
 have o:H∣G:=by rw [h];exact Nat.gcd_dvd_right _ _
 have t:H∣T:=by rw [h];exact Nat.gcd_dvd_left _ _
 have u:H∣q.den:=Nat.dvd_trans o (by rw [e];exact Nat.gcd_dvd_right _ _);rw [<- Rat.mkRat_mul_left (a:=G*H) (by have:=Nat.mul_pos j D;omega),Rat.add_def'];have g:T / H*H=T:=Nat.div_mul_cancel t;have v:q.den / H*H=q.den:=Nat.div_mul_cancel u;congr 1
 ·have:((G*H:Nat):Int)*fY B (T / H)=fY B T*(G:Nat):=by
   rw [<- g,fk B (T / H) H,Int.natCast_mul,g];grind
  rw [this,C,fk,fk,fC,fC];have f1:((q.den:Nat):Int)=(G:Nat)*((q.den / G:Nat):Int):=by rw [<- Int.natCast_mul,A]
  have E:((p.den:Nat):Int)=(G:Nat)*((p.den / G:Nat):Int):=by rw [<- Int.natCast_mul,w]
  rw [f1];conv=>rhs;rw [E]
  have F:q.den / G=q.den / G:=rfl;have I:G*(q.den / G) / G=q.den / G:=by rw [Nat.mul_div_cancel_left _ j]
  grind
 ·calc G*H*(p.den / G*(q.den / H))=(G*(p.den / G))*(q.den / H*H):=by ac_rfl
   _=p.den*q.den:=by rw [w,v]
namespace Nums
theorem ur (a b c:Rat):a+b+c=a+(b+c):=Rat.add_assoc a b c
theorem xE (a b:Rat):a+b=b+a:=Rat.add_comm a b
theorem lZ (a:Rat):0+a=a:=Rat.zero_add a
theorem Dz (a:Rat):-a+a=0:=Rat.neg_add_cancel a
theorem subE (a b:Rat):a-b=a + -b:=Rat.sub_eq_add_neg a b
theorem mulA (a b c:Rat):a*b*c=a*(b*c):=Rat.mul_assoc a b c
theorem mT (a b:Rat):a*b=b*a:=Rat.mul_comm a b
theorem jr (a:Rat):1*a=a:=Rat.one_mul a
theorem mL (a b c:Rat):a*(b+c)=a*b+a*c:=Rat.mul_add a b c
theorem A7 (a b:Rat) (h:b≠0):a / b*b=a:=Rat.div_mul_cancel h
theorem DH:(1:Rat)≠0:=zD
theorem cw (a:Rat):a+0=a:=by rw [xE,lZ]
theorem pH (a:Rat):a + -a=0:=by rw [xE,Dz]
theorem sS (a:Rat):a*1=a:=by rw [mT,jr]
theorem rM (a b c:Rat):(a+b)*c=a*c+b*c:=by rw [mT,mL,mT c a,mT c b]
theorem canc {c:Rat} (h:a+b=a+c):b=c:=by
 have:-a+(a+b) = -a+(a+c):=by rw [h]
 rw [<- ur,<- ur,Dz,lZ,lZ] at this;exact this
theorem di (a:Rat):a*0=0:=by
 apply canc (a:=a*0);rw [<- mL,cw,cw]
theorem iR (a:Rat):0*a=0:=by rw [mT,di]
theorem iA (h:a+b=0):b = -a:=by
 apply canc (a:=a);rw [h,pH]
theorem oO (a b:Rat):-a*b = -(a*b):=by
 apply iA;rw [<- rM,pH,iR]
theorem pM (a b:Rat):a * -b = -(a*b):=by rw [mT,oO,mT]
theorem jM (a:Rat):-(-a)=a:=(iA (Dz a)).symm
theorem yr (a b:Rat):-(a+b) = -a + -b:=by
 apply Eq.symm;apply iA
 calc a+b+(-a + -b)=(a + -a)+(b + -b):=by grind
  _=0:=by rw [pH,pH,cw]
theorem iM:-(0:Rat)=0:=(iA (cw 0)).symm
theorem lA (h:a + -b=0):a=b:=by
 have:=iA h;have e:-(-b) = -(-a):=by rw [this]
 rw [jM,jM] at e;exact e.symm
theorem ix (h:b≠0):1 / b*b=1:=A7 1 b h
theorem CM (a:Rat) (h:b≠0):a / b=a*(1 / b):=by
 calc a / b=a / b*(1 / b*b):=by rw [ix h,sS]
  _=(a / b*b)*(1 / b):=by grind
  _=a*(1 / b):=by rw [A7 a b h]
theorem CQ {c:Rat} (h:b≠0) (e:c*b=a):a / b=c:=by
 rw [CM a h,<- e,mulA,mT b,ix h,sS]
theorem xw (h:b≠0):0 / b=0:=CQ h (iR b)
theorem iz (ha:a≠0) (hb:b≠0):a*b≠0:=by
 intro h;apply hb
 calc b=1 / a*a*b:=by rw [ix ha,jr]
  _=1 / a*(a*b):=by rw [mulA]
  _=0:=by rw [h,di]
theorem iS (ha:a≠0) (h:a*b=0):b=0:=by
 apply Classical.byContradiction;intro hb;exact iz ha hb h
theorem DA (h:a≠0):-a≠0:=by
 intro e;apply h;rw [<- jM a,e,iM]
end Nums
open Nums
def gQ (v:Nat->Rat):(List Nat->Rat)->List Nat->Rat
 | _,[]=>0
 | f,a :: l=>v a*f l + -(gQ v (fun l'=>f (a :: l')) l)
theorem oX (u:Nat->Rat) (c:Rat):∀ (l:List Nat) (g h:List Nat->Rat),
  gQ u (fun e=>c*g e+h e) l=c*gQ u g l+gQ u h l:=by
 intro l;induction l with
 | nil=>intro g h;simp only [gQ];rw [di,cw]
 | cons a l ih =>
  intro g h;simp only [gQ];rw [ih (fun e=>g (a :: e)) (fun e=>h (a :: e))];simp only [mL,yr,pM];grind
theorem vw (u:Nat->Rat):∀ (l:List Nat),gQ u (fun _=>0) l=0:=by
 intro l;induction l with
 | nil=>rfl
 | cons a l ih=>simp only [gQ];rw [ih,di,iM,cw]
theorem mS (u:Nat->Rat) (h:List Nat->Rat) (l:List Nat):gQ u (fun e=>-(h e)) l = -(gQ u h l):=by
 have:=oX u (-1) l h (fun _=>0);rw [vw,cw,oO,jr] at this;rw [<- this];congr 1
 funext e
 rw [oO,jr,cw]
theorem lap_alt (v:Nat->Rat):∀ (l:List Nat) (f:List Nat->Rat),gQ v (gQ v f) l=0:=by
 intro l;induction l with
 | nil=>intro f;rfl
 | cons a l ih =>
  intro f;show v a*gQ v f l + -(gQ v (fun g=>v a*f g + -(gQ v (fun e=>f (a :: e)) g)) l)=0
  rw [oX v (v a) l f (fun g=>-(gQ v (fun e=>f (a :: e)) g)),mS,ih,iM,cw,pH]
theorem Dq (u v:Nat->Rat):∀ (l:List Nat) (f:List Nat->Rat),gQ u (gQ v f) l = -(gQ v (gQ u f) l):=by
 intro l;induction l with
 | nil=>intro f;exact iM.symm
 | cons a l ih =>
  intro f;show u a*gQ v f l + -(gQ u (fun g=>v a*f g + -(gQ v (fun e=>f (a :: e)) g)) l)
   = -(v a*gQ u f l + -(gQ v (fun g=>u a*f g + -(gQ u (fun e=>f (a :: e)) g)) l))
  rw [oX u (v a) l f (fun g=>-(gQ v (fun e=>f (a :: e)) g)),mS,ih,
   oX v (u a) l f (fun g=>-(gQ u (fun e=>f (a :: e)) g)),mS]
  simp only [yr,jM];grind
def cY (W:Nat->Nat->Rat):List Nat->List Nat->Rat
 | [],_=>1
 | j :: γ,l=>gQ (fun r=>W r j) (cY W γ) l
theorem uL (W:Nat->Nat->Rat) (c j:Nat) (e:List Nat):∀ (γ1 l:List Nat),cY W (γ1++c :: j :: e) l = -(cY W (γ1++j :: c :: e) l):=by
 intro γ1;induction γ1 with
 | nil=>intro l;exact Dq _ _ l _
 | cons g γ1 ih =>
  intro l;have:cY W (γ1++c :: j :: e)=fun l=>-(cY W (γ1++j :: c :: e) l):=funext ih
  simp only [List.cons_append,cY];rw [this,mS]
theorem oV (W:Nat->Nat->Rat) (j:Nat):∀ (γ:List Nat),j∈γ->∀ l,cY W (j :: γ) l=0:=by
 intro γ;induction γ with
 | nil=>intro h;simp at h
 | cons c γ ih =>
  intro h l;by_cases hc:j=c
  ·subst hc;exact lap_alt _ l _
  ·have g:j∈γ:=by simpa [hc] using h
   have:=uL W j c γ [] l;simp only [List.nil_append] at this;rw [this];have e:cY W (j :: γ)=fun _=>0:=funext (ih g)
   simp only [cY] at e ⊢;rw [e,vw,iM]
theorem rK (W:Nat->Nat->Rat) (j:Nat) (g:List Nat):∀ (γ1 l:List Nat),
  cY W (γ1++j :: g) l=cY W (j :: (γ1++g)) l∨cY W (γ1++j :: g) l = -(cY W (j :: (γ1++g)) l):=by
 have o:∀ γ1:List Nat,(∀ l,cY W (γ1++j :: g) l=cY W (j :: (γ1++g)) l)∨(∀ l,cY W (γ1++j :: g) l = -(cY W (j :: (γ1++g)) l)):=by
  intro γ1;induction γ1 with
  | nil=>exact .inl fun _=>rfl
  | cons c γ1 ih =>
   have p:∀ l,cY W (j :: c :: (γ1++g)) l = -(cY W (c :: j :: (γ1++g)) l):=fun l=>by
    have:=uL W j c (γ1++g) [] l;simpa only [List.nil_append] using this
   rcases ih with ih | ih
   ·right
    intro l;have e:cY W (γ1++j :: g)=cY W (j :: (γ1++g)):=funext ih;show gQ _ (cY W (γ1++j :: g)) l=_
    rw [e];show cY W (c :: j :: (γ1++g)) l = -(cY W (j :: c :: (γ1++g)) l)
    rw [p,jM]
   ·left
    intro l;have e:cY W (γ1++j :: g)=fun l=>-(cY W (j :: (γ1++g)) l):=funext ih
    show gQ _ (cY W (γ1++j :: g)) l=_
    rw [e,mS];show -(cY W (c :: j :: (γ1++g)) l)=cY W (j :: c :: (γ1++g)) l
    rw [p]
 intro γ1 l;rcases o γ1 with h | h
 ·exact .inl (h l)
 ·exact .inr (h l)
structure uq (Wh:Nat->Rat->Prop):Prop where
 zero:∀ b,Wh b 0
 one:∀ b,1<=b->Wh b 1
 add:∀ b c x y,Wh b x->Wh c y->Wh (b+c) (x+y)
 mul:∀ b c x y,Wh b x->Wh c y->Wh (b*c) (x*y)
 neg:∀ b x,Wh b x->Wh b (-x)
 mono:∀ b c x,b<=c->Wh b x->Wh c x
theorem lap_wh (g:uq Wh) (v:Nat->Rat) (K:Nat):∀ (l:List Nat) (f:List Nat->Rat),
  (∀ p a q,l=p++a :: q->Wh K (v a*f (p++q)))->Wh (l.length*K) (gQ v f l):=by
 intro l;induction l with
 | nil=>intro f _;exact g.zero _
 | cons a l ih =>
  intro f h;have j:=ih (fun t=>f (a :: t)) (fun p b q e=>h (a :: p) b q (by rw [e];rfl));have o:Wh K (v a*f l):=h [] a l rfl;have:=g.add _ _ _ _ o (g.neg _ _ j);refine g.mono _ _ _ ?_ this;rw [List.length_cons,Nat.add_mul,Nat.one_mul,Nat.add_comm];exact zL
def aZ (b:Nat->Nat):List Nat->Nat
 | []=>1
 | a :: l=>b a*aZ b l
theorem jw (b:Nat->Nat):∀ l l':List Nat,aZ b (l++l')=aZ b l*aZ b l':=by
 intro l l';induction l with
 | nil=>simp [aZ]
 | cons a l ih=>simp only [List.cons_append,aZ];rw [ih,Nat.mul_assoc]
theorem lE (b:Nat->Nat) (hb:∀ r,1<=b r):∀ l:List Nat,1<=aZ b l:=by
 intro l;induction l with
 | nil=>exact zL
 | cons a l ih=>exact Nat.mul_pos (hb a) ih
theorem qd (g:uq Wh) (W:Nat->Nat->Rat) (b:Nat->Nat) (hb:∀ r,1<=b r) (u:∀ r j,Wh (b r) (W r j)) (N:Nat) (t:0<N):∀ (γ l:List Nat),
  l.length<=N->Wh (aZ (fun r=>N*b r) l) (cY W γ l):=by
 have h:∀ r,1<=N*b r:=fun r=>Nat.mul_pos t (hb r)
 intro γ;induction γ with
 | nil=>intro l _;exact g.one _ (lE _ h l)
 | cons j γ ih =>
  intro l o;have:=lap_wh g (fun r=>W r j) (aZ (fun r=>N*b r) l / N) l (cY W γ) (by
   intro p a q e;have v:=g.mul _ _ _ _ (u a j) (ih (p++q) (by rw [e] at o;simp at o ⊢;omega));refine g.mono _ _ _ ?_ v;have w:aZ (fun r=>N*b r) l=N*(b a*aZ (fun r=>N*b r) (p++q)):=by
    rw [e,jw,jw];simp only [aZ];grind
   rw [w,Nat.mul_div_cancel_left _ t];exact zL)
  refine g.mono _ _ _ ?_ this;exact Nat.le_trans (Nat.mul_le_mul o zL) (Nat.mul_div_le _ _)
def fs (W:Nat->Nat->Rat):List Nat->(Nat->Rat)->Prop
 | [],R=>∀ j,R j=0
 | r :: ρ,R=>∃ c S,fs W ρ S/\∀ j,R j=c*W r j+S j
theorem jV (W:Nat->Nat->Rat) {R:Nat->Rat} (h:∀ j,R j=R' j) (e:fs W ρ R):fs W ρ R':=by
 have:R=R':=funext h;rw [<- this];exact e
theorem nj (W:Nat->Nat->Rat) (a b:Rat):∀ (ρ:List Nat) (R R':Nat->Rat),fs W ρ R->fs W ρ R'->fs W ρ (fun j=>a*R j+b*R' j):=by
 intro ρ;induction ρ with
 | nil=>intro R R' h o j;simp only [];rw [h j,o j,di,di,cw]
 | cons r ρ ih =>
  rintro R R' ⟨c,S,hS,e⟩ ⟨p,q,g,t⟩;refine ⟨a*c+b*p,_,ih S q hS g,fun j=>?_⟩;simp only [];rw [e j,t j];simp only [mL,rM];grind
theorem sJ (W:Nat->Nat->Rat):∀ (ρ:List Nat),fs W ρ (fun _=>0):=by
 intro ρ;induction ρ with
 | nil=>intro j;rfl
 | cons r ρ ih=>exact ⟨0,_,ih,fun j=>by simp only [];rw [iR,cw]⟩
theorem iE (W:Nat->Nat->Rat) (a:Rat) {R:Nat->Rat} (h:fs W ρ R):fs W ρ (fun j=>a*R j) :=
 jV W (fun j=>by rw [di,cw]) (nj W a 0 ρ R (fun _=>0) h (sJ W ρ))
theorem wN (W:Nat->Nat->Rat) {R:Nat->Rat} (h:fs W ρ R) (e:fs W ρ R'):fs W ρ (fun j=>R j+R' j) :=
 jV W (fun j=>by rw [jr,jr]) (nj W 1 1 ρ R R' h e)
theorem sI (W:Nat->Nat->Rat) (r:Nat) {R:Nat->Rat} (h:fs W ρ R):fs W (r :: ρ) R :=
 ⟨0,R,h,fun j=>by rw [iR,lZ]⟩
theorem wO (W:Nat->Nat->Rat) (r:Nat) (ρ:List Nat) (c:Rat) (h:fs W ρ S):fs W (r :: ρ) (fun j=>c*W r j+S j) :=
 ⟨c,S,h,fun _=>rfl⟩
theorem Ew (W:Nat->Nat->Rat):∀ (ρ:List Nat) (f:List Nat->Rat),fs W ρ (fun j=>gQ (fun r=>W r j) f ρ):=by
 intro ρ;induction ρ with
 | nil=>intro f j;rfl
 | cons a ρ ih =>
  intro f;refine ⟨f ρ,_,iE W (-1) (ih (fun e=>f (a :: e))),fun j=>?_⟩;simp only [gQ];rw [oO,jr,mT]
def Ind (W:Nat->Nat->Rat) (ρ γ:List Nat):Prop:=∀ S,fs W ρ S->(∀ c∈γ,S c=0)->∀ j,S j=0
theorem zy (W:Nat->Nat->Rat):Ind W [] []:=fun _ h _ j=>h j
theorem tS (W:Nat->Nat->Rat) {γ:List Nat} {R:Nat->Rat} (q:Ind W ρ γ) (hd:d=s*cY W γ ρ)
  (hR:∀ j,R j=d*W i j+S j) (hS:fs W ρ S) (h0:∀ c∈γ,R c=0):∀ j,R j=s*cY W (j :: γ) (i :: ρ):=by
 intro j;have g:∀ j,s*cY W (j :: γ) (i :: ρ)=d*W i j + -(s*gQ (fun r=>W r j) (fun e=>cY W γ (i :: e)) ρ):=by
  intro j;show s*(W i j*cY W γ ρ + -(gQ (fun r=>W r j) (fun e=>cY W γ (i :: e)) ρ))=_
  rw [mL,pM,hd];congr 1
  grind
 have h:=q (fun j=>S j+s*gQ (fun r=>W r j) (fun e=>cY W γ (i :: e)) ρ) (wN W hS (iE W s (Ew W ρ _))) (by
  intro c hc;have o:=h0 c hc;rw [hR c] at o;have p:=g c;rw [oV W c γ hc,di] at p;have t:=iA o;have u:s*gQ (fun r=>W r c) (fun e=>cY W γ (i :: e)) ρ=d*W i c:=(lA p.symm).symm;rw [t,u,Dz]) j
 rw [hR j,g j];congr 1
 rw [xE] at h;exact iA h
theorem vi (W:Nat->Nat->Rat) {γ:List Nat} {R:Nat->Rat} (y:Ind W ρ γ) (hd:d≠0)
  (hR:∀ j,R j=d*W i j+S j) (hS:fs W ρ S) (h0:∀ c∈γ,R c=0) (hc:R c≠0):Ind W (i :: ρ) (c :: γ):=by
 rintro B ⟨e,C,p,w⟩ x;have q:∀ j,B j=e*(1 / d)*R j:=by
  intro j;have t:=y (fun j=>C j + -(e*(1 / d))*S j) (wN W p (iE W _ hS)) (by
   intro g hg;have h:=x g (List.mem_cons_of_mem _ hg);have u:=h0 g hg;rw [w g] at h;rw [hR g] at u;have z:=iA h;have A:=iA u;rw [z,A,oO,pM,jM];have:e*(1 / d)*(d*W i g)=e*W i g:=by
    calc e*(1 / d)*(d*W i g)=e*(1 / d*d)*W i g:=by grind
     _=e*W i g:=by rw [ix hd,sS]
   rw [this,Dz]) j
  rw [xE] at t;have v:=iA t;rw [oO,jM] at v;rw [w j,hR j,mL,v];congr 1
  calc e*W i j=e*(1 / d*d)*W i j:=by rw [ix hd,sS]
   _=e*(1 / d)*(d*W i j):=by grind
 have o:e*(1 / d)=0:=by
  have h:=x c (List.mem_cons_self ..);rw [q c,mT] at h;exact iS hc h
 intro j;rw [q j,o,iR]
theorem El (W:Nat->Nat->Rat) {p:Rat} {R g:Nat->Rat} {i':Nat} {e:Rat} (l:Rat) (hd:d≠0)
  (hR:∀ j,R j=e*W i j+S j) (hS:fs W ρ S) (hR':∀ j,R' j=d*W i' j+g j) (hS':fs W ρ g) :
  ∃ T,fs W (i :: ρ) T/\∀ j,(p*R' j-l*R j) / d=p*W i' j+T j:=by
 have h:=wO W i ρ e hS;have o:=nj W (p*(1 / d)) (-(l*(1 / d))) (i :: ρ) g (fun j=>e*W i j+S j) (sI W i hS') h;refine ⟨_,o,fun j=>?_⟩;rw [CM _ hd,subE,hR' j,<- hR j,rM,oO,oO,mL,rM];have q:p*(d*W i' j)*(1 / d)=p*W i' j:=by
  calc p*(d*W i' j)*(1 / d)=p*(1 / d*d)*W i' j:=by grind
   _=p*W i' j:=by rw [ix hd,sS]
 have t:p*g j*(1 / d)=p*(1 / d)*g j:=by grind
 have u:l*R j*(1 / d)=l*(1 / d)*R j:=by grind
 rw [q,t,u,ur]
def cK:Nat->(Nat->Rat)->(Nat->Rat)->Rat
 | 0,_,_=>0
 | n+1,x,R=>cK n x R+R n*x n
theorem tn (x:Nat->Rat) (a b:Rat) (R R':Nat->Rat):∀ n,cK n x (fun j=>a*R j+b*R' j)=a*cK n x R+b*cK n x R':=by
 intro n;induction n with
 | zero=>simp only [cK];rw [di,di,cw]
 | succ n ih=>simp only [cK];rw [ih];simp only [mL,rM];grind
theorem Ba (x e R R':Nat->Rat):∀ n,(∀ j,j<n->R j*x j=R' j*e j)->cK n x R=cK n e R':=by
 intro n;induction n with
 | zero=>intro _;rfl
 | succ n ih=>intro h;simp only [cK];rw [ih (fun j g=>h j O),h n O]
theorem mO (x R:Nat->Rat):∀ n,(∀ j,j<n->R j*x j=0)->cK n x R=0:=by
 intro n;induction n with
 | zero=>intro _;rfl
 | succ n ih=>intro h;simp only [cK];rw [ih (fun j e=>h j O),h n O,cw]
theorem mN (x:Nat->Rat) (c:Rat) (R S:Nat->Rat) (n:Nat):cK n x (fun j=>c*R j+S j)=c*cK n x R+cK n x S:=by
 have:=tn x c 1 R S n;rw [jr] at this;rw [<- this];congr 1
 funext j
 rw [jr]
theorem ni (W:Nat->Nat->Rat) (n:Nat) (x:Nat->Rat):∀ (ρ:List Nat) (S:Nat->Rat),fs W ρ S->(∀ r∈ρ,cK n x (W r)=0)->cK n x S=0:=by
 intro ρ;induction ρ with
 | nil =>
  intro S h _;exact mO x S n (fun j _=>by rw [h j,iR])
 | cons r ρ ih =>
  rintro S ⟨c,o,g,e⟩ h;have:S=fun j=>c*W r j+o j:=funext e
  rw [this,mN,h r (List.mem_cons_self ..),ih o g (fun q p=>h q (List.mem_cons_of_mem _ p)),di,cw]
open Nums
def cE (f:Nat->Rat):List Nat->Rat
 | []=>0
 | a :: l=>f a+cE f l
theorem wX (f:Nat->Rat):∀ l l':List Nat,cE f (l++l')=cE f l+cE f l':=by
 intro l l';induction l with
 | nil=>exact (lZ _).symm
 | cons a l ih=>simp only [List.cons_append,cE];rw [ih,ur]
theorem nT (f:Nat->Rat):∀ l:List Nat,(∀ j∈l,f j=0)->cE f l=0:=by
 intro l;induction l with
 | nil=>intro _;rfl
 | cons a l ih=>intro h;simp only [cE];rw [h a (List.mem_cons_self ..),ih (fun j e=>h j (List.mem_cons_of_mem _ e)),cw]
theorem qP (f g:Nat->Rat):∀ l:List Nat,(∀ j∈l,f j=g j)->cE f l=cE g l:=by
 intro l;induction l with
 | nil=>intro _;rfl
 | cons a l ih=>intro h;simp only [cE];rw [h a (List.mem_cons_self ..),ih (fun j e=>h j (List.mem_cons_of_mem _ e))]
theorem EC (c:Rat) (f:Nat->Rat):∀ l:List Nat,cE (fun j=>c*f j) l=c*cE f l:=by
 intro l;induction l with
 | nil=>exact (di c).symm
 | cons a l ih=>simp only [cE];rw [ih,mL]
theorem jW (x R:Nat->Rat):∀ n,cE (fun j=>R j*x j) (List.range n)=cK n x R:=by
 intro n;induction n with
 | zero=>rfl
 | succ n ih=>rw [List.range_succ,wX,ih];simp only [cE,cK];rw [cw]
theorem wY (f:Nat->Rat) (v:Nat):∀ (l:List Nat) (i:Nat),i<l.length->cE f (l.set i v)+f (l.getD i 0)=cE f l+f v:=by
 intro l;induction l with
 | nil=>intro i h;simp at h
 | cons a l ih =>
  intro i h;cases i with
  | zero=>simp only [List.set_cons_zero,cE,List.getD_cons_zero];grind
  | succ i =>
   simp only [List.set_cons_succ,cE,List.getD_cons_succ];have:=ih i (by simpa using h);rw [ur,this,ur]
theorem sq (f:Nat->Nat) (v:Nat):∀ (l:List Nat) (i:Nat),i<l.length->aZ f (l.set i v)*f (l.getD i 0)=aZ f l*f v:=by
 intro l;induction l with
 | nil=>intro i h;simp at h
 | cons a l ih =>
  intro i h;cases i with
  | zero=>simp only [List.set_cons_zero,aZ,List.getD_cons_zero];grind
  | succ i =>
   simp only [List.set_cons_succ,aZ,List.getD_cons_succ];have:=ih i (by simpa using h);rw [Nat.mul_assoc,this,Nat.mul_assoc]
def dB (l:List Nat) (i j:Nat):List Nat:=(l.set i (l.getD j 0)).set j (l.getD i 0)
def aP (a b i:Nat):Nat:=if i=b then a else if i=a then b else i
theorem ib (l:List Nat) (i j:Nat):(dB l i j).length=l.length:=by simp [dB]
theorem cF (l:List Nat) (a b i:Nat) (ha:a<l.length) (hb:b<l.length):(dB l a b).getD i 0=l.getD (aP a b i) 0:=by
 unfold dB aP;simp only [zW,List.getElem?_set,List.length_set];by_cases h:b=i
 ·subst h;simp [hb]
 ·have g:i≠b:=fun e=>h e.symm
  by_cases j:a=i
  ·subst j;simp [h,g,ha]
  ·have o:i≠a:=fun e=>j e.symm
   simp [h,g,j,o]
theorem dA {a b m:Nat} (ha:a<m) (hb:b<m) (hi:i<m):aP a b i<m:=by
 unfold aP;split
 ·exact ha
 ·split<;>assumption
theorem wZ {a b:Nat} (ha:k<=a) (hb:k<=b) (hi:k<=i):k<=aP a b i:=by
 unfold aP;split
 ·exact ha
 ·split<;>assumption
theorem lI {a b:Nat} (ha:k<=a) (hb:k<=b) (hi:i<k):aP a b i=i:=by
 unfold aP;rw [if_neg O,if_neg O]
theorem fg (a b i:Nat):aP a b (aP a b i)=i:=by
 unfold aP;by_cases g:i=b
 ·subst g;by_cases e:a=i
  ·subst e;simp
  ·simp [e]
 ·by_cases e:i=a
  ·subst e;simp [g]
  ·simp [g,e]
theorem dg (l:List Nat) (i:Nat) (h:i<l.length):l.getD i 0∈l:=by
 rw [zW,zX h];exact List.getElem_mem h
theorem fB {v:Nat} (h:v∈l):∃ i,i<l.length/\l.getD i 0=v:=by
 obtain ⟨i,hi,e⟩:=List.mem_iff_getElem.1 h;exact ⟨i,hi,by rw [zW,zX hi];exact e⟩
theorem lJ (l:List Nat) (a b v:Nat) (ha:a<l.length) (hb:b<l.length):v∈dB l a b↔v∈l:=by
 constructor
 ·intro h;obtain ⟨i,hi,e⟩:=fB h;rw [cF l a b i ha hb] at e;rw [ib] at hi;rw [<- e];exact dg l _ (dA ha hb hi)
 ·intro h;obtain ⟨i,hi,e⟩:=fB h;have g:=dg (dB l a b) (aP a b i) (by rw [ib];exact dA ha hb hi);rw [cF l a b _ ha hb,fg,e] at g;exact g
theorem Cb (f:Nat->Rat) (l:List Nat) (a b:Nat) (ha:a<l.length) (hb:b<l.length):cE f (dB l a b)=cE f l:=by
 have g:=wY f (l.getD b 0) l a ha;have e:=wY f (l.getD a 0) (l.set a (l.getD b 0)) b (by simpa using hb);have j:(l.set a (l.getD b 0)).getD b 0=l.getD b 0:=by
  by_cases h:a=b
  ·subst h;rw [zW,List.getElem?_set];simp [ha]
  ·rw [zW,List.getElem?_set,if_neg h,<- zW]
 rw [j] at e;show cE f ((l.set a (l.getD b 0)).set b (l.getD a 0))=_
 apply canc (a:=f (l.getD b 0)+f (l.getD a 0))
 calc f (l.getD b 0)+f (l.getD a 0)+cE f ((l.set a (l.getD b 0)).set b (l.getD a 0))
   = (cE f ((l.set a (l.getD b 0)).set b (l.getD a 0))+f (l.getD b 0))+f (l.getD a 0):=by grind
  _=(cE f (l.set a (l.getD b 0))+f (l.getD a 0))+f (l.getD a 0):=by rw [e]
  _=(cE f l+f (l.getD b 0))+f (l.getD a 0):=by rw [g]
  _=f (l.getD b 0)+f (l.getD a 0)+cE f l:=by grind
theorem qR (f:Nat->Nat) (e:∀ r,1<=f r) (l:List Nat) (a b:Nat) (ha:a<l.length) (hb:b<l.length):aZ f (dB l a b)=aZ f l:=by
 have j:=sq f (l.getD b 0) l a ha;have g:=sq f (l.getD a 0) (l.set a (l.getD b 0)) b (by simpa using hb);have o:(l.set a (l.getD b 0)).getD b 0=l.getD b 0:=by
  by_cases h:a=b
  ·subst h;rw [zW,List.getElem?_set];simp [ha]
  ·rw [zW,List.getElem?_set,if_neg h,<- zW]
 rw [o] at g;show aZ f ((l.set a (l.getD b 0)).set b (l.getD a 0))=_
 have p:0<f (l.getD b 0)*f (l.getD a 0):=Nat.mul_pos (e _) (e _);apply Nat.eq_of_mul_eq_mul_left p
 calc f (l.getD b 0)*f (l.getD a 0)*aZ f ((l.set a (l.getD b 0)).set b (l.getD a 0))
   = (aZ f ((l.set a (l.getD b 0)).set b (l.getD a 0))*f (l.getD b 0))*f (l.getD a 0):=by grind
  _=(aZ f (l.set a (l.getD b 0))*f (l.getD a 0))*f (l.getD a 0):=by rw [g]
  _=(aZ f l*f (l.getD b 0))*f (l.getD a 0):=by rw [j]
  _=f (l.getD b 0)*f (l.getD a 0)*aZ f l:=by grind
theorem dp (l:List Nat) (a b k:Nat) (ha:k<=a) (hb:k<=b):(dB l a b).take k=l.take k:=by
 unfold dB;rw [List.take_set_of_le O,List.take_set_of_le O]
theorem cU (l:List Nat) (k:Nat) (h:k<l.length):(l.take (k+1)).reverse=l.getD k 0 :: (l.take k).reverse:=by
 rw [List.take_add_one,zX h,zW,zX h];simp
def Left (W:Nat->Nat->Rat) (ρ γ:List Nat) (d:Rat) (i:Nat) (R:Nat->Rat):Prop :=
 ∃ S,fs W ρ S/\(∀ j,R j=d*W i j+S j)/\∀ c∈γ,R c=0
def DoneR (W:Nat->Nat->Rat) (ρ γ:List Nat) (c i:Nat) (R:Nat->Rat):Prop :=
 ∃ e S,e≠0/\fs W ρ S/\(∀ j,R j=e*W i j+S j)/\(∀ c∈γ,R c=0)/\R c≠0
structure St (W:Nat->Nat->Rat) (m done:Nat) (perm order:List Nat) (R:Nat->Nat->Rat) (d s:Rat):Prop where
 pl:perm.length=m
 pm:∀ r,r<m->r∈perm
 pb:∀ r∈perm,r<m
 pp:∀ c:Nat->Nat,(∀ r,1<=c r)->aZ c perm=aZ c (List.range m)
 ol:order.length=m
 om:∀ j,j<m->j∈order
 ob:∀ j∈order,j<m
 oi:∀ i k,i<m->k<m->order.getD i 0=order.getD k 0->i=k
 os:∀ f:Nat->Rat,cE f order=cE f (List.range m)
 le:done<=m
 ind:Ind W (perm.take done).reverse (order.take done).reverse
 dn:d≠0
 dd:d=s*cY W (order.take done).reverse (perm.take done).reverse
 sg:s=1∨s = -1
 todo:∀ i,done<=i->i<m->Left W (perm.take done).reverse (order.take done).reverse d (perm.getD i 0) (R i)
 fin:∀ t,t<done->DoneR W (perm.take t).reverse (order.take t).reverse (order.getD t 0) (perm.getD t 0) (R t)
theorem jR (m i:Nat) (h:i<m):(List.range m).getD i 0=i:=by
 rw [zW,List.getElem?_range h];rfl
theorem wT (W:Nat->Nat->Rat) (m:Nat):St W m 0 (List.range m) (List.range m) W 1 1 where
 pl:=List.length_range
 pm:=fun r h=>List.mem_range.2 h
 pb:=fun r h=>List.mem_range.1 h
 pp:=fun _ _=>rfl
 ol:=List.length_range
 om:=fun r h=>List.mem_range.2 h
 ob:=fun r h=>List.mem_range.1 h
 oi:=fun i k hi g e=>by rw [jR m i hi,jR m k g] at e;exact e
 os:=fun _=>rfl
 le:=Nat.zero_le _
 ind:=by simpa using zy W
 dn:=DH
 dd:=by simp only [List.take_zero,List.reverse_nil,cY];rw [jr]
 sg:=.inl rfl
 todo:=fun i _ h=>⟨fun _=>0,sJ W _,fun j=>by rw [jR m i h,jr,cw],Z⟩
 fin:=fun t h=>O
theorem Av {m:Nat} (h:St W m done perm order R d s)
  {a b:Nat} (hd:done<m) (ha:done<=a) (ha2:a<m) (hb:done<=b) (hb2:b<m) :
  St W m done (dB perm done a) (dB order done b) (fun i=>R (aP done a i)) d s:=by
 have o:done<perm.length:=by rw [h.pl];exact hd
 have p:a<perm.length:=by rw [h.pl];exact ha2
 have g:done<order.length:=by rw [h.ol];exact hd
 have j:b<order.length:=by rw [h.ol];exact hb2
 constructor
 ·rw [ib];exact h.pl
 ·intro r q;exact (lJ perm done a r o p).2 (h.pm r q)
 ·intro r q;exact h.pb r ((lJ perm done a r o p).1 q)
 ·intro c hc;rw [qR c hc perm done a o p];exact h.pp c hc
 ·rw [ib];exact h.ol
 ·intro r q;exact (lJ order done b r g j).2 (h.om r q)
 ·intro r q;exact h.ob r ((lJ order done b r g j).1 q)
 ·intro i k hi x e;rw [cF _ _ _ _ g j,cF _ _ _ _ g j] at e;have w:=h.oi _ _ (dA hd hb2 hi) (dA hd hb2 x) e;rw [<- fg done b i,w,fg]
 ·intro f;rw [Cb f order done b g j];exact h.os f
 ·exact h.le
 ·rw [dp _ _ _ _ zL ha,dp _ _ _ _ zL hb];exact h.ind
 ·exact h.dn
 ·rw [dp _ _ _ _ zL ha,dp _ _ _ _ zL hb];exact h.dd
 ·exact h.sg
 ·intro i hi u;rw [dp _ _ _ _ zL ha,dp _ _ _ _ zL hb,cF _ _ _ _ o p];exact h.todo _ (wZ zL ha hi) (dA hd ha2 u)
 ·intro t v;rw [dp _ _ _ _ O O,dp _ _ _ _ O O,cF _ _ _ _ o p,cF _ _ _ _ g j,
   lI zL ha v,lI zL hb v]
  exact h.fin t v
theorem st_step {m:Nat} {R':Nat->Nat->Rat} {u p:Rat} (h:St W m done perm order R d s)
  (hd:done<m) (hu:u=1∨u = -1) (hlow:∀ t,t<done->∀ j,R' t j=R t j)
  (hpiv:∀ j,R' done j=u*R done j) (hp:p=R' done (order.getD done 0)) (hn:p≠0)
  (hrest:∀ i,done<i->i<m->∀ j,R' i j=(p*R i j-R i (order.getD done 0)*R' done j) / d) :
  St W m (done+1) perm order R' p (u*s):=by
 obtain ⟨S,hS,E,F⟩:=h.todo done zL hd;have g:done<perm.length:=by rw [h.pl];exact hd
 have o:done<order.length:=by rw [h.ol];exact hd
 have C:u≠0:=by rcases hu with e | e<;>rw [e];exact DH;exact DA DH
 have D:R done (order.getD done 0)≠0:=by
  intro e;apply hn;rw [hp,hpiv,e,di]
 have y:∀ j,R' done j=u*d*W (perm.getD done 0) j+u*S j:=by
  intro j;rw [hpiv,E,mL,mulA]
 have z:fs W (perm.take done).reverse (fun j=>u*S j):=iE W u hS;have A:∀ c∈(order.take done).reverse,R' done c=0:=by
  intro c hc;rw [hpiv,F c hc,di]
 constructor
 ·exact h.pl
 ·exact h.pm
 ·exact h.pb
 ·exact h.pp
 ·exact h.ol
 ·exact h.om
 ·exact h.ob
 ·exact h.oi
 ·exact h.os
 ·exact hd
 ·rw [cU _ _ g,cU _ _ o];exact vi W h.ind h.dn E hS F D
 ·exact hn
 ·rw [cU _ _ g,cU _ _ o,hp,hpiv,tS W h.ind h.dd E hS F (order.getD done 0),mulA]
 ·rcases hu with e | e<;>rcases h.sg with B | B <;> rw [e,B]
  ·left;exact jr 1
  ·right;exact jr _
  ·right;exact sS _
  ·left;rw [oO,jr,jM]
 ·intro i hi q;rw [cU _ _ g,cU _ _ o];obtain ⟨I,v,w,x⟩:=h.todo i O q;obtain ⟨T,J,K⟩:=El W (p:=p) (i:=perm.getD done 0) (i':=perm.getD i 0) (R i (order.getD done 0)) h.dn y z w v;refine ⟨T,J,fun j=>?_,fun c hc=>?_⟩
  ·rw [hrest i hi q j,K j]
  ·rw [hrest i hi q c];rcases List.mem_cons.1 hc with e | e
   ·subst e;rw [<- hp,mT p,subE,pH,xw h.dn]
   ·rw [x c e,A c e,di,di,subE,iM,cw,xw h.dn]
 ·intro t L;by_cases e:t=done
  ·subst e;exact ⟨u*d,_,iz C h.dn,z,y,A,by rw [<- hp];exact hn⟩
  ·obtain ⟨B,I,G,v,w,x,H⟩:=h.fin t O;refine ⟨B,I,G,v,fun j=>?_,fun c hc=>?_,?_⟩
   ·rw [hlow t O j];exact w j
   ·rw [hlow t O c];exact x c hc
   ·rw [hlow t O];exact H
def mF (W:Nat->Nat->Rat) (m:Nat) (x:Nat->Rat):Prop:=x m = -1/\∀ r,r<m->cK (m+1) x (W r)=0
theorem nQ {m:Nat} (h:St W m done perm order R d s) (x:Nat->Rat) :
  (∀ r,r<m->cK (m+1) x (W r)=0)↔∀ i,i<m->cK (m+1) x (R i)=0:=by
 have p:∀ t,t<m->perm.getD t 0<m:=fun t ht=>h.pb _ (dg perm t (by rw [h.pl];exact ht))
 have g:∀ k,∀ r∈(perm.take k).reverse,∃ t,t<k/\t<m/\perm.getD t 0=r:=by
  intro k r j;rw [List.mem_reverse] at j;obtain ⟨i,hi,e⟩:=fB j;rw [List.length_take] at hi;refine ⟨i,O,by rw [<- h.pl];omega,?_⟩;rw [<- e,zW,zW,List.getElem?_take,if_pos O]
 constructor
 ·intro y i hi;have u:∀ k (S:Nat->Rat),fs W (perm.take k).reverse S->cK (m+1) x S=0:=fun k S hS =>
   ni W (m+1) x _ S hS (fun r j=>by obtain ⟨t,_,ht,e⟩:=g k r j;rw [<- e];exact y _ (p t ht))
  by_cases hd:i<done
  ·obtain ⟨e,S,_,hS,hR,_⟩:=h.fin i hd;rw [funext hR,mN,y _ (p i hi),u i S hS,di,cw]
  ·obtain ⟨S,hS,hR,_⟩:=h.todo i O hi;rw [funext hR,mN,y _ (p i hi),u done S hS,di,cw]
 ·intro hR;have o:∀ t,t<done->cK (m+1) x (W (perm.getD t 0))=0:=by
   intro t;induction t using Nat.strongRecOn with
   | _ t ih =>
    intro ht;obtain ⟨e,S,B,hS,z,_⟩:=h.fin t ht;have v:=hR t (by have:=h.le;omega);rw [funext z,mN,ni W (m+1) x _ S hS (fun r j=>by
     obtain ⟨q,A,_,e⟩:=g t r j;rw [<- e];exact ih q A O),cw] at v
    exact iS B v
  have w:∀ t,t<m->cK (m+1) x (W (perm.getD t 0))=0:=by
   intro t ht;by_cases hd:t<done
   ·exact o t hd
   ·obtain ⟨S,hS,z,_⟩:=h.todo t O ht;have v:=hR t ht;rw [funext z,mN,ni W (m+1) x _ S hS (fun r j=>by
     obtain ⟨q,A,_,e⟩:=g done r j;rw [<- e];exact o q A),cw] at v
    exact iS h.dn v
  intro r j;obtain ⟨i,hi,e⟩:=fB (h.pm r j);rw [<- e];exact w i (by rw [<- h.pl];exact hi)
open Nums
theorem wK (g:uq Wh) (j:s=1∨s = -1) {b:Nat} {x:Rat} (h:Wh b x):Wh b (s*x):=by
 rcases j with e | e<;>rw [e]
 ·rw [jr];exact h
 ·rw [oO,jr];exact g.neg _ _ h
def dR (m:Nat) (b:Nat->Nat):Nat:=aZ (fun r=>m*b r) (List.range m)
theorem sj (c:Nat->Nat) (hc:∀ r,1<=c r) {v:Nat} : ∀ l:List Nat,v∈l->c v<=aZ c l:=by
 intro l;induction l with
 | nil=>intro h;simp at h
 | cons a l ih =>
  intro h;simp only [aZ];rcases List.mem_cons.1 h with e | e
  ·rw [e];exact Nat.le_mul_of_pos_right _ (lE c hc l)
  ·exact Nat.le_trans (ih e) (Nat.le_mul_of_pos_left _ (hc a))
theorem lF (c:Nat->Nat):∀ l:List Nat,aZ c l.reverse=aZ c l:=by
 intro l;induction l with
 | nil=>rfl
 | cons a l ih=>rw [List.reverse_cons,jw,ih];simp only [aZ];rw [Nat.mul_one,Nat.mul_comm]
theorem qw (c:Nat->Nat) (hc:∀ r,1<=c r) (l:List Nat) (k:Nat):aZ c (l.take k)<=aZ c l:=by
 conv=>rhs;rw [<- List.take_append_drop k l]
 rw [jw];exact Nat.le_mul_of_pos_right _ (lE c hc _)
theorem sn (c:Nat->Nat) (hc:∀ r,1<=c r) (l:List Nat) (k i:Nat) (hi:k<=i) (e:i<l.length):aZ c (l.getD i 0 :: (l.take k).reverse)<=aZ c l:=by
 conv=>rhs;rw [<- List.take_append_drop k l]
 rw [jw];simp only [aZ];rw [lF,Nat.mul_comm];apply Nat.mul_le_mul zL;apply sj c hc;have:=dg (l.drop k) (i-k) (by rw [List.length_drop];omega);rw [zW,List.getElem?_drop,<- zW] at this;rw [show k+(i-k)=i by omega] at this;exact this
theorem st_wh (e:uq Wh) {m:Nat} {b:Nat->Nat}
  (h:St W m done perm order R d s) (hb:∀ r,1<=b r) (hB:∀ r j,Wh (b r) (W r j)) (i:Nat) (hi:done<=i) (hi2:i<m) (j:Nat):Wh (dR m b) (R i j):=by
 obtain ⟨S,hS,o,p⟩:=h.todo i hi hi2;rw [tS W h.ind h.dd o hS p j];apply wK e h.sg;have hc:∀ r,1<=m*b r:=fun r=>Nat.mul_pos O (hb r)
 have g:(perm.getD i 0 :: (perm.take done).reverse).length<=m:=by
  simp only [List.length_cons,List.length_reverse,List.length_take];omega
 have:=qd e W b hb hB m O (j :: (order.take done).reverse) _ g;refine e.mono _ _ _ ?_ this;unfold dR;rw [<- h.pp _ hc];exact sn _ hc perm done i hi (by rw [h.pl];exact hi2)
theorem Aw (e:uq Wh) {m:Nat} {b:Nat->Nat}
  (h:St W m done perm order R d s) (hm:0<m) (hb:∀ r,1<=b r) (hB:∀ r j,Wh (b r) (W r j)):Wh (dR m b) d:=by
 rw [h.dd];apply wK e h.sg;have hc:∀ r,1<=m*b r:=fun r=>Nat.mul_pos hm (hb r)
 have g:(perm.take done).reverse.length<=m:=by
  simp only [List.length_reverse,List.length_take];have:=h.le;omega
 have:=qd e W b hb hB m hm (order.take done).reverse _ g;refine e.mono _ _ _ ?_ this;unfold dR;rw [<- h.pp _ hc,lF];exact qw _ hc perm done
theorem lT {v:Nat} (h:v∈l.take k):∃ t,t<k/\t<l.length/\l.getD t 0=v:=by
 obtain ⟨i,hi,e⟩:=fB h;rw [List.length_take] at hi;refine ⟨i,O,O,?_⟩;rw [<- e,zW,zW,List.getElem?_take,if_pos O]
theorem iU {t:Nat} (h:t<k) (e:t<l.length):l.getD t 0∈l.take k:=by
 have:=dg (l.take k) t (by rw [List.length_take];omega);rw [zW,List.getElem?_take,if_pos h,<- zW] at this;exact this
theorem qQ (f:Nat->Rat):∀ (l:List Nat) (t:Nat),t<l.length->cE f l=cE f (l.take t)+(f (l.getD t 0)+cE f (l.drop (t+1))):=by
 intro l;induction l with
 | nil=>intro t h;simp at h
 | cons a l ih =>
  intro t h;cases t with
  | zero=>simp only [List.take_zero,List.getD_cons_zero,cE,List.drop_succ_cons,List.drop_zero];rw [lZ]
  | succ t =>
   simp only [List.take_succ_cons,List.getD_cons_succ,cE,List.drop_succ_cons];rw [ih t (by simpa using h),ur]
def upd (x:Nat->Rat) (c:Nat) (v:Rat):Nat->Rat:=fun j=>if j=c then v else x j
theorem dot_upd (x R:Nat->Rat) (c:Nat) (v:Rat):∀ n,c<n->cK n (upd x c v) R=cK n x R+R c*(v + -(x c)):=by
 intro n;induction n with
 | zero=>intro h;omega
 | succ n ih =>
  intro h;simp only [cK];by_cases e:c=n
  ·subst e;have o:cK c (upd x c v) R=cK c x R:=Ba _ _ _ _ c (fun j p=>by simp only [upd];rw [if_neg O]);have g:upd x c v c=v:=by simp [upd]
   rw [o,g,mL,pM]
   calc cK c x R+R c*v=cK c x R+(R c*x c + -(R c*x c))+R c*v:=by rw [pH,cw]
    _=cK c x R+R c*x c+(R c*v + -(R c*x c)):=by grind
  ·have g:upd x c v n=x n:=by simp only [upd];rw [if_neg O]
   rw [ih O,g];grind
theorem pB {m:Nat} (h:St W m done perm order R d s) (g:Nat->Rat) :
  ∃ x:Nat->Rat,(∀ j,j∉order.take done->x j=g j)/\∀ t,t<done->cK (m+1) x (R t)=0:=by
 have o:∀ k,k<=done->∃ x:Nat->Rat,(∀ j,j∉order.take done->x j=g j)/\∀ t,done-k<=t->t<done->cK (m+1) x (R t)=0:=by
  intro k;induction k with
  | zero=>intro _;exact ⟨g,fun _ _=>rfl,fun t D v=>O⟩
  | succ k ih =>
   intro F;obtain ⟨x,q,u⟩:=ih O;have w:done-(k+1)<done:=O
   have E:=h.le;obtain ⟨e,S,_,_,_,_,hn⟩:=h.fin (done-(k+1)) w;have z:=h.ol;have hc:order.getD (done-(k+1)) 0<m:=h.ob _ (dg order _ O);refine ⟨upd x (order.getD (done-(k+1)) 0) (x (order.getD (done-(k+1)) 0) + -(cK (m+1) x (R (done-(k+1))) / R (done-(k+1)) (order.getD (done-(k+1)) 0))),fun j y=>?_,fun t D v=>?_⟩
   ·have:j≠order.getD (done-(k+1)) 0:=by
     intro e;apply y;rw [e];exact iU w O
    simp only [upd];rw [if_neg this];exact q j y
   ·rw [dot_upd _ _ _ _ (m+1) O];by_cases p:t=done-(k+1)
    ·subst p;have A:x (order.getD (done-(k+1)) 0) + -(cK (m+1) x (R (done-(k+1))) / R (done-(k+1)) (order.getD (done-(k+1)) 0)) + -(x (order.getD (done-(k+1)) 0))
       = -(cK (m+1) x (R (done-(k+1))) / R (done-(k+1)) (order.getD (done-(k+1)) 0)):=by
      calc x (order.getD (done-(k+1)) 0) + -(cK (m+1) x (R (done-(k+1))) / R (done-(k+1)) (order.getD (done-(k+1)) 0)) + -(x (order.getD (done-(k+1)) 0))
        = -(cK (m+1) x (R (done-(k+1))) / R (done-(k+1)) (order.getD (done-(k+1)) 0))+(x (order.getD (done-(k+1)) 0) + -(x (order.getD (done-(k+1)) 0))):=by grind
       _=_:=by rw [pH,cw]
     rw [A,pM,mT,A7 _ _ hn,pH]
    ·obtain ⟨_,_,_,_,_,C,_⟩:=h.fin t v;have B:=C (order.getD (done-(k+1)) 0) (by rw [List.mem_reverse];exact iU O O);rw [B,iR,cw];exact u t O v
 obtain ⟨x,q,u⟩:=o done zL;exact ⟨x,q,fun t p=>u t O p⟩
theorem qM {m:Nat} (h:St W m done perm order R d s)
  (hz:∀ i,done<=i->i<m->∀ k,done<=k->k<m->R i (order.getD k 0)=0) (i:Nat) (hi:done<=i) (hi2:i<m) (j:Nat) (hj:j<m):R i j=0:=by
 obtain ⟨k,g,e⟩:=fB (h.om j hj);rw [h.ol] at g;rw [<- e];by_cases hd:k<done
 ·obtain ⟨S,_,_,o⟩:=h.todo i hi hi2;exact o _ (by rw [List.mem_reverse];exact iU hd (by rw [h.ol];exact g))
 ·exact hz i hi hi2 k O g
theorem Au {m:Nat} (h:St W m done perm order R d s)
  (hz:∀ i,done<=i->i<m->∀ k,done<=k->k<m->R i (order.getD k 0)=0) {i:Nat} (hi:done<=i) (hi2:i<m) (hn:R i m≠0):¬ ∃ x,mF W m x:=by
 rintro ⟨x,g,o⟩;have e:=(nQ h x).1 o i hi2;simp only [cK] at e;rw [mO x (R i) m (fun j p=>by rw [qM h hz i hi hi2 j p,iR]),lZ,g,pM,sS] at e;exact DA hn e
theorem At {m:Nat} (h:St W m done perm order R d s) (hd:done<m)
  (hz:∀ i,done<=i->i<m->∀ k,done<=k->k<m->R i (order.getD k 0)=0) (hn:∀ i,done<=i->i<m->R i m=0) :
  ∃ x y:Nat->Rat,mF W m x/\mF W m y/\∃ j,j<m/\x j≠y j:=by
 have w:=h.ol;have g:∀ v:Rat,∃ x:Nat->Rat,mF W m x/\x (order.getD done 0)=v:=by
  intro v;obtain ⟨x,p,A⟩:=pB h (fun j=>if j=m then -1 else v);have o:m∉order.take done:=fun o=>by
   have:=h.ob m (List.mem_of_mem_take o);omega
  have z:order.getD done 0∉order.take done:=fun o=>by
   obtain ⟨t,E,B,e⟩:=lT o;have:=h.oi t done O hd e;omega
  have hlt:order.getD done 0<m:=h.ob _ (dg order _ O);refine ⟨x,⟨?_,(nQ h x).2 (fun i hi=>?_)⟩,?_⟩
  ·rw [p m o,if_pos rfl]
  ·by_cases q:i<done
   ·exact A i q
   ·apply mO;intro j D;by_cases u:j=m
    ·rw [u,hn i O hi,iR]
    ·rw [qM h hz i O hi j O,iR]
  ·rw [p _ z,if_neg O]
 obtain ⟨x,p,ex⟩:=g 0;obtain ⟨y,hy,C⟩:=g 1;refine ⟨x,y,p,hy,order.getD done 0,h.ob _ (dg order _ O),?_⟩;rw [ex,C];exact fun e=>DH e.symm
theorem rX {u v:Nat->Rat} : ∀ (l:List Nat) (f:List Nat->Rat),(∀ r∈l,u r=v r)->gQ u f l=gQ v f l:=by
 intro l;induction l with
 | nil=>intro _ _;rfl
 | cons a l ih =>
  intro f h;simp only [gQ];rw [h a (List.mem_cons_self ..),ih _ (fun r e=>h r (List.mem_cons_of_mem _ e))]
theorem Dp (a:Rat) (u v:Nat->Rat):∀ (l:List Nat) (f:List Nat->Rat),gQ (fun r=>a*u r+v r) f l=a*gQ u f l+gQ v f l:=by
 intro l;induction l with
 | nil=>intro f;simp only [gQ];rw [di,cw]
 | cons r l ih =>
  intro f;simp only [gQ];rw [ih];simp only [mL,rM,yr,pM];grind
theorem rY:∀ (l:List Nat) (f:List Nat->Rat),gQ (fun _=>(0:Rat)) f l=0:=by
 intro l;induction l with
 | nil=>intro f;rfl
 | cons r l ih=>intro f;simp only [gQ];rw [ih,iR,iM,cw]
theorem zj (W:Nat->Nat->Rat) (x:Nat->Rat) (γ l:List Nat):∀ o:List Nat,
  gQ (fun r=>cE (fun j=>W r j*x j) o) (cY W γ) l=cE (fun j=>x j*cY W (j :: γ) l) o:=by
 intro o;induction o with
 | nil=>exact rY l _
 | cons a o ih =>
  simp only [cE];rw [<- ih];show _=x a*gQ (fun r=>W r a) (cY W γ) l+_
  rw [<- Dp];congr 1
  funext r
  rw [mT]
theorem BZ (o:uq Wh) {m:Nat} {b:Nat->Nat}
  (h:St W m m perm order R d s) (hb:∀ r,1<=b r) (hB:∀ r j,Wh (b r) (W r j)) {y:Nat->Rat} (hy:mF W m y) (t:Nat) (ht:t<m) :
  Wh (dR m b) (d*y (order.getD t 0)):=by
 have z:=h.ol;have A:=h.pl;have B:order.take m=order:=zT O;have C:perm.take m=perm:=zT O;have p:=h.dd;rw [B,C] at p;have q:∀ r∈perm.reverse,W r m=cE (fun j=>W r j*y j) order:=by
  intro r x;rw [List.mem_reverse] at x;have v:=hy.2 r (h.pb r x);simp only [cK] at v;rw [hy.1,pM,sS] at v;rw [h.os,jW];exact (lA v).symm
 have g:order.reverse=(order.drop (t+1)).reverse++order.getD t 0 :: (order.take t).reverse:=by
  have e:order=order.take t++order.getD t 0 :: order.drop (t+1):=by
   rw [zW,zX O];simp
  conv=>lhs;rw [e]
  simp
 have D:cY W (m :: ((order.drop (t+1)).reverse++(order.take t).reverse)) perm.reverse
   = y (order.getD t 0)*cY W (order.getD t 0 :: ((order.drop (t+1)).reverse++(order.take t).reverse)) perm.reverse:=by
  show gQ (fun r=>W r m) _ _=_
  rw [rX perm.reverse _ q,zj,qQ _ order t O];rw [nT _ (order.take t) (fun j w=>by rw [oV W j _ (by simp [w]),di]),
   nT _ (order.drop (t+1)) (fun j w=>by rw [oV W j _ (by simp [w]),di]),cw,lZ]
 have u:Wh (dR m b) (cY W (m :: ((order.drop (t+1)).reverse++(order.take t).reverse)) perm.reverse):=by
  have hc:∀ r,1<=m*b r:=fun r=>Nat.mul_pos O (hb r)
  have:=qd o W b hb hB m O (m :: ((order.drop (t+1)).reverse++(order.take t).reverse)) perm.reverse (by rw [List.length_reverse];omega);refine o.mono _ _ _ ?_ this;unfold dR;rw [<- h.pp _ hc,lF];exact zL
 have E:d*y (order.getD t 0)=s*cY W (m :: ((order.drop (t+1)).reverse++(order.take t).reverse)) perm.reverse
   ∨ d*y (order.getD t 0) = -(s*cY W (m :: ((order.drop (t+1)).reverse++(order.take t).reverse)) perm.reverse):=by
  rw [D,p,g];rcases rK W (order.getD t 0) (order.take t).reverse (order.drop (t+1)).reverse perm.reverse with e | e
  ·left;rw [e];grind
  ·right;rw [e,pM,oO];congr 1;grind
 rcases E with e | e<;>rw [e]
 ·exact wK o h.sg u
 ·exact o.neg _ _ (wK o h.sg u)
theorem As (F:uq Wh) {m:Nat} {b:Nat->Nat}
  (h:St W m m perm order R d s) (hb:∀ r,1<=b r) (hB:∀ r j,Wh (b r) (W r j)) :
  ∃ y:Nat->Rat,mF W m y/\(∀ z,mF W m z->∀ j,j<m->z j=y j)/\(∀ t,t<m->Wh (dR m b) (d*y (order.getD t 0)))
   /\ ∀ t,t<m->R t (order.getD t 0)≠0/\d*R t m-cE (fun v=>R t v*(d*y v)) (order.drop (t+1))=d*y (order.getD t 0)*R t (order.getD t 0):=by
 have G:=h.ol;obtain ⟨y,hy,K⟩:=pB h (fun _=>-1);have A:m∉order.take m:=fun A=>by
  have:=h.ob m (List.mem_of_mem_take A);omega
 have hS:mF W m y:=⟨hy m A,(nQ h y).2 (fun i hi=>K i hi)⟩;have g:∀ z,mF W m z->∀ t,t<m->R t m=R t (order.getD t 0)*z (order.getD t 0)+cE (fun v=>R t v*z v) (order.drop (t+1)):=by
  intro z x t o;have u:=(nQ h z).1 x.2 t o;simp only [cK] at u;rw [x.1,pM,sS,<- jW,<- h.os,qQ _ order t O] at u;obtain ⟨_,_,_,_,_,L,_⟩:=h.fin t o;rw [nT _ (order.take t) (fun j hj=>by rw [L j (by rw [List.mem_reverse];exact hj),iR]),lZ] at u;exact (lA u).symm
 have p:∀ t,t<m->R t (order.getD t 0)≠0:=fun t o=>by
  obtain ⟨_,_,_,_,_,_,hn⟩:=h.fin t o;exact hn
 refine ⟨y,hS,?_,fun t o=>BZ F h hb hB hS t o,fun t o=>⟨p t o,?_⟩⟩
 ·intro z x;have B:∀ k,k<=m->∀ t,m-k<=t->t<m->z (order.getD t 0)=y (order.getD t 0):=by
   intro k;induction k with
   | zero=>intro _ t u w;omega
   | succ k ih =>
    intro N t u w;by_cases e:m-k<=t
    ·exact ih O t e w
    ·have H:=g z x t w;have C:=g y hS t w;have D:cE (fun v=>R t v*z v) (order.drop (t+1))=cE (fun v=>R t v*y v) (order.drop (t+1)):=by
      apply qP;intro j hj;obtain ⟨q,M,E⟩:=fB hj;rw [List.length_drop] at M;rw [zW,List.getElem?_drop,<- zW] at E;rw [<- E,ih O (t+1+q) O O]
     rw [H,D,xE] at C;rw [xE (R t (order.getD t 0)*y _)] at C;have I:=canc C;have J:R t (order.getD t 0)*(z (order.getD t 0) + -(y (order.getD t 0)))=0:=by
      rw [mL,pM,I,pH]
     exact lA (iS (p t w) J)
  intro j hj;obtain ⟨t,o,e⟩:=fB (h.om j hj);rw [<- e];exact B m zL t O O
 ·have e:=g y hS t o;have D:cE (fun v=>R t v*(d*y v)) (order.drop (t+1))=d*cE (fun v=>R t v*y v) (order.drop (t+1)):=by
   rw [<- EC];apply qP;intro j _;grind
  rw [D,e,subE,mL,ur,pH,cw];grind
def gP (b:Nat) (q:Rat):Prop:=q.den=1/\rN q<=b
theorem pF {q:Rat} (h:q.den=1):q=((q.num:Int):Rat):=by
 apply Rat.ext
 ·rfl
 ·rw [h];rfl
theorem Fd (z:Int) (b:Nat) (h:z.natAbs<=b):gP b ((z:Int):Rat):=⟨rfl,h⟩
theorem bE:uq gP where
 zero:=fun b=>⟨rfl,Nat.zero_le _⟩
 one:=fun b h=>⟨rfl,h⟩
 add:=by
  rintro b c x y ⟨h1,h2⟩ ⟨h3,h4⟩;rw [pF h1,pF h3];have e:((x.num:Int):Rat)+((y.num:Int):Rat)=((x.num+y.num:Int):Rat):=(Rat.intCast_add _ _).symm;show gP _ (((x.num:Int):Rat)+((y.num:Int):Rat))
  rw [e];refine Fd _ _ ?_;unfold rN at h2 h4;omega
 mul:=by
  rintro b c x y ⟨h1,h2⟩ ⟨h3,h4⟩;rw [pF h1,pF h3];have e:((x.num:Int):Rat)*((y.num:Int):Rat)=((x.num*y.num:Int):Rat):=(Rat.intCast_mul _ _).symm;show gP _ (((x.num:Int):Rat)*((y.num:Int):Rat))
  rw [e];refine Fd _ _ ?_;rw [Int.natAbs_mul];exact Nat.mul_le_mul h2 h4
 neg:=by
  rintro b x ⟨h1,h2⟩;refine ⟨h1,?_⟩;unfold rN;show (-x).num.natAbs<=b
  rw [Rat.neg_num,Int.natAbs_neg];exact h2
 mono:=fun b c x h h1=>⟨h1.1,Nat.le_trans h1.2 h⟩
def jh (R:Nat->Rat):Nat->Nat
 | 0=>1
 | i+1=>jh R i*(R i*(jh R i:Nat)).den
def cA (R:Nat->Rat) (i:Nat):Nat->Rat:=fun j=>R j*(jh R i:Nat)
theorem xH (R:Nat->Rat) (j:Nat):cA R 0 j=R j:=by
 unfold cA jh;show R j*((1:Nat):Rat)=R j
 rw [show ((1:Nat):Rat)=1 from rfl,Rat.mul_one]
theorem jC (R:Nat->Rat) (i j:Nat):cA R (i+1) j=cA R i j*(((cA R i i).den:Nat):Rat):=by
 unfold cA;show R j*((jh R i*(R i*(jh R i:Nat)).den:Nat):Rat)=_
 rw [Rat.natCast_mul,Rat.mul_assoc]
theorem pV (R:Nat->Rat):∀ i,0<jh R i:=by
 intro i;induction i with
 | zero=>exact Nat.one_pos
 | succ i ih=>exact Nat.mul_pos ih (Rat.den_pos _)
theorem oe (x:Rat) (k:Nat):(x*(k:Nat)).den∣x.den:=by
 have e:x*((k:Nat):Rat)=mkRat (x.num*(k:Nat)) x.den:=by
  rw [Rat.mul_def',Rat.num_natCast,Rat.den_natCast,Nat.mul_one]
 rw [e,Rat.den_mkRat,if_neg x.den_nz];exact Nat.div_dvd_of_dvd (Nat.gcd_dvd_left _ _)
theorem uK {x:Rat} (k:Nat) (h:x.den=1):(x*(k:Nat)).den=1:=by
 have:=oe x k;rw [h] at this;exact Nat.dvd_one.1 this
theorem vJ (x:Rat):(x*((x.den:Nat):Rat)).den=1:=by
 have e:x*((x.den:Nat):Rat)=mkRat (x.num*(x.den:Nat)) x.den:=by
  rw [Rat.mul_def',Rat.num_natCast,Rat.den_natCast,Nat.mul_one]
 rw [e,Rat.den_mkRat,if_neg x.den_nz];have hg:Nat.gcd x.den (x.num*(x.den:Nat)).natAbs=x.den:=by
  rw [Int.natAbs_mul,Int.natAbs_natCast];exact Nat.gcd_eq_left (Nat.dvd_mul_left _ _)
 first | (rw [hg];exact Nat.div_self x.den_pos) | (rw [Nat.gcd_comm,hg];exact Nat.div_self x.den_pos)
theorem nX (R:Nat->Rat):∀ i j,j<i->(cA R i j).den=1:=by
 intro i;induction i with
 | zero=>intro j h;omega
 | succ i ih =>
  intro j g;rw [jC];by_cases e:j=i
  ·rw [e];exact vJ _
  ·exact uK _ (ih j O)
theorem AL (R:Nat->Rat) (i j:Nat):(cA R i j).den∣(R j).den:=oe _ _
namespace Rk
def sm (f:Nat->Rat):Nat->Rat
 | 0=>0
 | n+1=>sm f n+f n
theorem nh {g:Nat->Rat} : ∀ n,(∀ k,k<n->f k=g k)->sm f n=sm g n
 | 0,_=>rfl
 | n+1,h=>by rw [sm,sm,nh n fun k e=>h k O,h n O]
theorem pw : ∀ n,(∀ k,k<n->f k=0)->sm f n=0
 | 0,_=>rfl
 | n+1,h=>by rw [sm,pw n fun k hk=>h k O,h n O];grind
theorem yR (f g:Nat->Rat) (a:Rat):∀ n,sm (fun k=>f k-a*g k) n=sm f n-a*sm g n
 | 0=>by
  show (0:Rat)=0-a*0
  grind
 | n+1=>by
  rw [sm,sm,sm,yR f g a n];grind
theorem yP (q:Nat):∀ n,q<n->(∀ k,k<n->k≠q->f k=0)->sm f n=f q
 | 0,h,_=>absurd h (Nat.not_lt_zero _)
 | n+1,h,hz=>by
  rw [sm];by_cases e:q=n
  ·subst e;rw [pw q fun k j=>hz k O O];grind
  ·rw [yP q n O fun k j g=>hz k O g,hz n O O];grind
def um (n:Nat) (m:Nat->Nat->Rat) (y:Nat->Rat):Prop:=∀ i,i<n->sm (fun k=>m i k*y k) n=m i n
def dX (m:Nat->Nat->Rat) (r p:Nat):Nat->Nat->Rat:=fun i=>if i=r then m p else if i=p then m r else m i
def dM (m:Nat->Nat->Rat) (r:Nat) (f:Nat->Rat):Nat->Nat->Rat:=fun i k=>if i=r then m i k else m i k-f i*m r k
theorem ans_swp {p:Nat} (j:r<n) (o:p<n) (m:Nat->Nat->Rat) (y:Nat->Rat):um n (dX m r p) y↔um n m y:=by
 constructor
 ·intro h i hi;by_cases e:i=p
  ·have:=h r j;unfold dX at this;rw [if_pos rfl] at this;rw [e];exact this
  ·by_cases g:i=r
   ·have:=h p o;unfold dX at this;by_cases q:p=r
    ·exact absurd (g.trans q.symm) e
    ·rw [if_neg q,if_pos rfl] at this;rw [g];exact this
   ·have:=h i hi;unfold dX at this;rw [if_neg g,if_neg e] at this;exact this
 ·intro h i hi;unfold dX;split
  ·exact h p o
  ·split
   ·exact h r j
   ·exact h i hi
theorem Cv (o:r<n) (m:Nat->Nat->Rat) (f:Nat->Rat) (y:Nat->Rat):um n (dM m r f) y↔um n m y:=by
 have g:∀ i,i≠r->sm (fun k=>dM m r f i k*y k) n=sm (fun k=>m i k*y k) n-f i*sm (fun k=>m r k*y k) n:=fun i hi=>by
  rw [<- yR];refine nh n fun k _=>?_
  unfold dM;rw [if_neg hi];grind
 have own:∀ k,dM m r f r k=m r k:=fun k=>by unfold dM;rw [if_pos rfl]
 constructor
 ·intro h;have j:sm (fun k=>m r k*y k) n=m r n:=by
   have:=h r o;rw [own n,nh n fun k _=>by rw [own k]] at this;exact this
  intro i hi;by_cases e:i=r
  ·rw [e];exact j
  ·have:=h i hi;rw [g i e,j] at this;have p:dM m r f i n=m i n-f i*m r n:=by unfold dM;rw [if_neg e]
   rw [p] at this;grind
 ·intro h i hi;by_cases e:i=r
  ·rw [e,own n,nh n fun k _=>by rw [own k]];exact h r o
  ·rw [g i e,h i hi,h r o];unfold dM;rw [if_neg e]
structure xB (n:Nat) (m:Nat->Nat->Rat) (r c:Nat) (P:Nat->Nat):Prop where
 rn:r<=n
 cn:c<=n+1
 at_:∀ j,j<r->P j<c
 up:∀ i j,i<j->j<r->P i<P j
 lead:∀ j,j<r->m j (P j)≠0
 other:∀ j,j<r->∀ i,i<n->i≠j->m i (P j)=0
 low:∀ i,r<=i->i<n->∀ k,k<c->m i k=0
 left:∀ j,j<r->∀ k,k<P j->m j k=0
theorem BU (n:Nat) (m:Nat->Nat->Rat) (P:Nat->Nat):xB n m 0 0 P :=
 ⟨O,O,fun _ h=>O,fun _ _ _ h=>O,fun _ h=>O,fun _ h=>O,fun _ _ _ _ h=>O,fun _ h=>O⟩
theorem Eg (h:xB n m r c P) (hc:c<=n) (p:∀ i,r<=i->i<n->m i c=0):xB n m r (c+1) P :=
 ⟨h.rn,O,fun j q=>Nat.lt_succ_of_lt (h.at_ j q),h.up,h.lead,h.other,fun i g o k t=>by
  by_cases e:k=c
  ·subst e;exact p i g o
  ·exact h.low i g o k O,h.left⟩
theorem Eh {p:Nat} (h:xB n m r c P) (hc:c<=n) (v:r<=p) (t:p<n) (z:m p c≠0) (f:Nat->Rat)
  (hf:∀ i,i<n->i≠r->f i*dX m r p r c=dX m r p i c):xB n (dM (dX m r p) r f) (r+1) (c+1) (fun j=>if j=r then c else P j):=by
 have A:r<n:=O
 have B:dX m r p r=m p:=by unfold dX;rw [if_pos rfl]
 have o:∀ i,i<r->dX m r p i=m i:=fun i hi=>by unfold dX;rw [if_neg O,if_neg O]
 have q:∀ i,r<=i->i<n->∀ k,k<c->dX m r p i k=0:=fun i F x k g=>by
  unfold dX;split
  ·exact h.low p v t k g
  ·split
   ·exact h.low r zL A k g
   ·exact h.low i F x k g
 have C:∀ k,dM (dX m r p) r f r k=m p k:=fun k=>by unfold dM;rw [if_pos rfl,B]
 have lo:∀ i,i≠r->∀ k,dM (dX m r p) r f i k=dX m r p i k-f i*m p k:=fun i hi k=>by unfold dM;rw [if_neg hi,B]
 have w:∀ i,i≠r->∀ k,k<c->dM (dX m r p) r f i k=dX m r p i k:=fun i hi k g=>by
  rw [lo i hi,h.low p v t k g];grind
 have lc:∀ i,i<n->i≠r->dM (dX m r p) r f i c=0:=fun i hi G=>by
  rw [lo i G];have:=hf i hi G;rw [B] at this;rw [this];grind
 refine ⟨O,O,fun j y=>?_,fun i j D y=>?_,fun j y=>?_,fun j y i hi u=>?_,fun i F x k g=>?_,fun j y k g=>?_⟩
 ·try dsimp only
  split
  ·omega
  ·exact Nat.lt_succ_of_lt (h.at_ j O)
 ·try dsimp only
  rw [if_neg (show ¬ i=r by omega)];by_cases e:j=r
  ·rw [if_pos e];exact h.at_ i O
  ·rw [if_neg e];exact h.up i j D O
 ·try dsimp only
  by_cases e:j=r
  ·rw [if_pos e,e,C];exact z
  ·rw [if_neg e,w j e _ (h.at_ j O),o j O];exact h.lead j O
 ·try dsimp only
  by_cases e:j=r
  ·rw [if_pos e];exact lc i hi O
  ·rw [if_neg e];by_cases E:i=r
   ·rw [E,C];exact h.low p v t _ (h.at_ j O)
   ·rw [w i E _ (h.at_ j O)];by_cases hlt:i<r
    ·rw [o i hlt];exact h.other j O i hi u
    ·exact q i O hi _ (h.at_ j O)
 ·by_cases e:k=c
  ·rw [e];exact lc i x O
  ·rw [w i O k O];exact q i O x k O
 ·try dsimp only at g
  by_cases e:j=r
  ·rw [if_pos e] at g;rw [e,C];exact h.low p v t k g
  ·rw [if_neg e] at g;have:=h.at_ j O;rw [w j e k O,o j O];exact h.left j O k g
theorem CU (h:xB n m r c P) (j:Nat) (e:j<r) (hP:P j=n) (y:Nat->Rat):¬ um n m y:=by
 intro ha;have g:=ha j (Nat.lt_of_lt_of_le e h.rn);rw [pw n fun k o=>by rw [h.left j e k O];grind] at g;have:=h.lead j e;rw [hP] at this;exact this g.symm
theorem Fb (h:xB n m r c P):∀ j,j<r->j<=P j
 | 0,_=>Nat.zero_le _
 | j+1,hj=>by
  have e:=Fb h j O;have g:=h.up j (j+1) O hj;omega
theorem Fc (h:xB n m n c P) (hn:∀ j,j<n->P j<n):∀ d j,j+d=n->j<n->P j=j:=by
 have g:∀ d j,j+d=n->0<d->P j+d<=n:=by
  intro d;induction d with
  | zero=>intro j _ h0;omega
  | succ d ih =>
   intro j e _;by_cases h0:d=0
   ·have:=hn j O;omega
   ·have o:=ih (j+1) O O;have p:=h.up j (j+1) O O;omega
 intro d j e hlt;have o:=g d j e O;have p:=Fb h j hlt;omega
theorem end_one (h:xB n m n c P) (hn:∀ j,j<n->P j<n) :
  um n m (fun i=>m i n / m i i)/\∀ y,um n m y->∀ i,i<n->y i=m i n / m i i:=by
 have o:∀ j,j<n->P j=j:=fun j u=>Fc h hn (n-j) j O u
 have hd:∀ i,i<n->m i i≠0:=fun i hi=>by have:=h.lead i hi;rw [o i hi] at this;exact this
 have q:∀ i k,i<n->k<n->k≠i->m i k=0:=fun i k hi g e=>by have:=h.other k g i hi (Ne.symm e);rw [o k g] at this;exact this
 have row:∀ (y:Nat->Rat) (i:Nat),i<n->sm (fun k=>m i k*y k) n=m i i*y i:=fun y i hi=>yP i n hi fun k g e=>by rw [q i k hi g e];grind
 refine ⟨fun i hi=>?_,fun y hy i hi=>?_⟩
 ·rw [row _ i hi];have:=hd i hi;rw [Rat.mul_comm];exact Rat.div_mul_cancel this
 ·have p:=hy i hi;rw [row y i hi] at p;have t:=hd i hi;rw [<- p,Rat.mul_comm];exact (Rat.mul_div_cancel t).symm
def rm (m:Nat->Nat->Rat) (n r:Nat) (P:Nat->Nat) (g:Nat->Rat):Nat->Nat->Rat
 | 0,k=>g k
 | j+1,k=>if k=P j then (m j n-sm (fun q=>m j q*g q) n) / m j (P j) else rm m n r P g j k
theorem mQ {g:Nat->Rat} : ∀ j,(∀ i,i<j->P i≠k)->rm m n r P g j k=g k
 | 0,_=>rfl
 | j+1,h=>by rw [rm,if_neg (fun e=>h j O e.symm),mQ j fun i hi=>h i O]
theorem zu (h:xB n m r c P) (g:Nat->Rat) (i:Nat):∀ j,j<=r->i<j->rm m n r P g j (P i)=(m i n-sm (fun q=>m i q*g q) n) / m i (P i)
 | 0,_,hi=>absurd hi (Nat.not_lt_zero _)
 | j+1,hj,hi=>by
  rw [rm];by_cases e:i=j
  ·subst e;rw [if_pos rfl]
  ·have:=h.up i j O O;rw [if_neg O];exact zu h g i j O O
theorem uS (h:xB n m r (n+1) P) (hn:∀ j,j<r->P j<n) (g:Nat->Rat) (hg:∀ j,j<r->g (P j)=0):um n m (rm m n r P g r):=by
 intro i hi;by_cases p:i<r
 ·have v:=h.lead i p;have e:sm (fun k=>m i k*rm m n r P g r k) n=sm (fun k=>m i k*g k) n+m i (P i)*rm m n r P g r (P i):=by
   have u:sm (fun k=>m i k*rm m n r P g r k-1*(m i k*g k)) n=m i (P i)*rm m n r P g r (P i)-1*(m i (P i)*g (P i)):=by
    refine yP (P i) n (hn i p) fun k w t=>?_
    by_cases o:∃ j,j<r/\P j=k
    ·obtain ⟨j,q,rfl⟩:=o;have:i≠j:=fun e=>t (by rw [e])
     rw [h.other j q i hi this];grind
    ·rw [mQ r fun j q e=>o ⟨j,q,e⟩];grind
   rw [yR] at u;rw [hg i p] at u;grind
  rw [e,zu h g i r zL p,Rat.mul_comm,Rat.div_mul_cancel v];grind
 ·rw [pw n fun k w=>by rw [h.low i O hi k O];grind,h.low i O hi n O]
theorem uW (h:xB n m r c P):∀ s,s<=r->∃ q,q<=s/\∀ j,j<s->P j≠q
 | 0,_=>⟨0,zL,fun j o=>O⟩
 | s+1,hs=>by
  obtain ⟨q,u,p⟩:=uW h s O;by_cases e:P s=q
  ·have t:=Fb h s O;refine ⟨s+1,zL,fun j o=>?_⟩;by_cases g:j=s
   ·rw [g];omega
   ·have:=h.up j s O O;omega
  ·exact ⟨q,O,fun j o=>by
    by_cases g:j=s
    ·rw [g];exact e
    ·exact p j O⟩
theorem end_two (h:xB n m r (n+1) P) (hn:∀ j,j<r->P j<n) (o:r<n):∃ y z q,um n m y/\um n m z/\q<n/\y q≠z q:=by
 obtain ⟨q,p,e⟩:=uW h r zL;refine ⟨_,_,q,uS h hn (fun _=>0) (fun _ _=>rfl),uS h hn (fun k=>if k=q then 1 else 0) (fun j g=>if_neg (e j g)),O,?_⟩;rw [mQ r e,mQ r e,if_pos rfl];decide
end Rk
namespace Rk
open Nums
def gM (P:Nat->Nat):Nat->List Nat
 | 0=>[]
 | r+1=>P r :: gM P r
theorem sd {Q:Nat->Nat} : ∀ r,(∀ j,j<r->P j=Q j)->gM P r=gM Q r
 | 0,_=>rfl
 | r+1,h=>by rw [gM,gM,h r O,sd r fun j e=>h j O]
theorem tK {x:Nat} : ∀ r,x∈gM P r->∃ j,j<r/\P j=x
 | 0,h=>by cases h
 | r+1,h=>by
  rcases List.mem_cons.1 h with e | e
  ·exact ⟨r,O,e.symm⟩
  ·obtain ⟨j,g,e⟩:=tK r e;exact ⟨j,O,e⟩
theorem Ab {j:Nat} : ∀ r,j<r->P j∈gM P r
 | 0,h=>absurd h (Nat.not_lt_zero _)
 | r+1,h=>by
  by_cases e:j=r
  ·rw [e];exact List.mem_cons_self ..
  ·exact List.mem_cons_of_mem _ (Ab r O)
theorem se (P:Nat->Nat) (i:Nat):∀ r,i<r->∃ γ1,gM P r=γ1++P i :: gM P i/\∀ x∈γ1,∃ j,j<r/\i<j/\P j=x
 | 0,h=>absurd h (Nat.not_lt_zero _)
 | r+1,h=>by
  by_cases e:i=r
  ·exact ⟨[],by rw [e];rfl,fun x p=>by cases p⟩
  ·obtain ⟨g,q,t⟩:=se P i r O;refine ⟨P r :: g,by rw [gM,q];rfl,fun x p=>?_⟩;rcases List.mem_cons.1 p with o | o
   ·exact ⟨r,O,O,o.symm⟩
   ·obtain ⟨j,w,u,v⟩:=t x o;exact ⟨j,O,u,v⟩
structure Gj (n:Nat) (W:Nat->Nat->Rat) (s:Nat->Rat) (m:Nat->Nat->Rat) (r c:Nat) (P:Nat->Nat) (perm:List Nat):Prop where
 red:xB n m r c P
 pl:perm.length=n
 pp:∀ c:Nat->Nat,(∀ r,1<=c r)->aZ c perm=aZ c (List.range n)
 rest:∀ i,r<=i->i<n->fs W (perm.take r).reverse (fun k=>s (perm.getD i 0)*m i k-W (perm.getD i 0) k)
 back:∀ x,(∀ i,i<r->cK (n+1) x (m i)=0)->∀ q∈(perm.take r).reverse,cK (n+1) x (W q)=0
 ind:Ind W (perm.take r).reverse (gM P r)
 dnz:∀ i,i<=r->cY W (gM P i) (perm.take i).reverse≠0
 led:∀ i,i<r->m i (P i)*(cY W (gM P i) (perm.take i).reverse*s (perm.getD i 0))=cY W (gM P (i+1)) (perm.take (i+1)).reverse
theorem gj_start {s:Nat->Rat} (P:Nat->Nat) (h:∀ i,i<n->∀ k,s i*m i k=W i k):Gj n W s m 0 0 P (List.range n) where
 red:=BU n m P
 pl:=Z
 pp:=fun _ _=>rfl
 rest:=fun i _ hi j=>by
  rw [zW,zX (by simp;exact hi)];simp only [List.getElem_range,Option.getD_some];rw [h i hi];grind
 back:=fun _ _ q e=>by simp at e
 ind:=zy W
 dnz:=fun i hi=>by
  obtain rfl:i=0:=O
  exact DH
 led:=fun i hi=>O
theorem gj_skip {s:Nat->Rat} (h:Gj n W s m r c P perm) (hc:c<=n) (e:∀ i,r<=i->i<n->m i c=0):Gj n W s m r (c+1) P perm :=
 ⟨Eg h.red hc e,h.pl,h.pp,h.rest,h.back,h.ind,h.dnz,h.led⟩
theorem wH {s:Nat->Rat} (h:Gj n W s m r c P perm) (i:Nat) (hi:r<=i) (hn:i<n) (k:Nat) :
  cY W (gM P r) (perm.take r).reverse*s (perm.getD i 0)*m i k=cY W (k :: gM P r) (perm.getD i 0 :: (perm.take r).reverse):=by
 have:=tS W (ρ:=(perm.take r).reverse) (γ:=gM P r) (d:=cY W (gM P r) (perm.take r).reverse) (s:=1) (R:=fun k=>cY W (gM P r) (perm.take r).reverse*s (perm.getD i 0)*m i k) (i:=perm.getD i 0) h.ind (jr _).symm
  (fun j=>by
   show _=cY W (gM P r) (perm.take r).reverse*W (perm.getD i 0) j+cY W (gM P r) (perm.take r).reverse*(s (perm.getD i 0)*m i j-W (perm.getD i 0) j)
   grind) (iE W _ (h.rest i hi hn)) (fun c hc=>by
    obtain ⟨j,e,rfl⟩:=tK r hc;show _*m i (P j)=0
    rw [h.red.low i hi hn _ (h.red.at_ j e),di]) k
 rw [jr] at this;exact this
theorem EI {p:Nat} (g:r<l.length) (h:p<l.length):(dB l r p).getD r 0=l.getD p 0:=by
 rw [cF l r p r g h];unfold aP;split
 ·rename_i e;rw [e]
 ·rw [if_pos rfl]
theorem gj_step {s:Nat->Rat} (U:∀ q,s q≠0) {p:Nat} (h:Gj n W s m r c P perm) (hc:c<=n) (w:r<=p) (o:p<n) (F:m p c≠0) (f:Nat->Rat)
  (hf:∀ i,i<n->i≠r->f i*dX m r p r c=dX m r p i c):Gj n W s (dM (dX m r p) r f) (r+1) (c+1) (fun j=>if j=r then c else P j) (dB perm r p):=by
 have L:=h.pl;have M:r<n:=O
 have V:dX m r p r=m p:=by unfold dX;rw [if_pos rfl]
 have t:∀ i,i<=r->gM (fun j=>if j=r then c else P j) i=gM P i:=fun i hi=>sd i fun j hj=>if_neg O
 have B:gM (fun j=>if j=r then c else P j) (r+1)=c :: gM P r:=by rw [gM,t r zL,if_pos rfl]
 have G:∀ i,i<=r->(dB perm r p).take i=perm.take i:=fun i hi=>dp perm r p i hi O
 have z:(dB perm r p).getD r 0=perm.getD p 0:=EI O O;have u:((dB perm r p).take (r+1)).reverse=perm.getD p 0 :: (perm.take r).reverse:=by
  rw [cU _ r (by rw [ib];omega),z,G r zL]
 have N:∀ i,i<r->(dB perm r p).getD i 0=perm.getD i 0:=fun i hi=>by
  rw [cF perm r p i O O,lI zL w hi]
 have Q:∀ i,i<n->s ((dB perm r p).getD i 0)=s (perm.getD (aP r p i) 0)/\(dB perm r p).getD i 0=perm.getD (aP r p i) 0:=fun i hi=>by
  rw [cF perm r p i O O];exact ⟨rfl,rfl⟩
 have T:∀ i,dX m r p i=m (aP r p i):=fun i=>by
  unfold dX aP;by_cases D:i=r
  ·by_cases v:i=p
   ·rw [if_pos D,if_pos v];congr 1
    omega
   ·rw [if_pos D,if_neg v,if_pos D]
  ·rw [if_neg D];by_cases v:i=p
   ·rw [if_pos v,if_pos v]
   ·rw [if_neg v,if_neg v,if_neg D]
 have X:∀ k,dM (dX m r p) r f r k=m p k:=fun k=>by unfold dM;rw [if_pos rfl,V]
 have lo:∀ i,i≠r->∀ k,dM (dX m r p) r f i k=dX m r p i k-f i*m p k:=fun i hi k=>by unfold dM;rw [if_neg hi,V]
 have H:=h.dnz r zL;have A:=wH h p w o c;have I:cY W (gM P r) (perm.take r).reverse*s (perm.getD p 0)*m p c≠0:=iz (iz H (U _)) F;have sp:fs W (perm.getD p 0 :: (perm.take r).reverse) (m p):=by
  have E:=iE W (1 / s (perm.getD p 0)) (h.rest p w o);have y:=wO W (perm.getD p 0) _ (1 / s (perm.getD p 0)) E;refine jV W (fun j=>?_) y;have J:=ix (U (perm.getD p 0));show 1 / s (perm.getD p 0)*W (perm.getD p 0) j+1 / s (perm.getD p 0)*(s (perm.getD p 0)*m p j-W (perm.getD p 0) j)=m p j
  calc _=(1 / s (perm.getD p 0)*s (perm.getD p 0))*m p j:=by grind
   _=m p j:=by rw [J,jr]
 refine ⟨Eh h.red hc w o F f hf,by rw [ib];exact L,fun c2 K=>?_,fun i E y=>?_,fun x hx=>?_,?_,fun i hi=>?_,fun i hi=>?_⟩
 ·rw [qR c2 K perm r p O O];exact h.pp c2 K
 ·rw [u];obtain ⟨D,v⟩:=Q i y;rw [v];have J:r<=aP r p i:=wZ zL w O;have h4:aP r p i<n:=dA M o y;have h5:=sI W (perm.getD p 0) (h.rest _ J h4);have h6:=nj W 1 (-(s (perm.getD (aP r p i) 0)*f i)) _ _ _ h5 sp;refine jV W (fun j=>?_) h6;show 1*(s (perm.getD (aP r p i) 0)*m (aP r p i) j-W (perm.getD (aP r p i) 0) j) + -(s (perm.getD (aP r p i) 0)*f i)*m p j=s (perm.getD (aP r p i) 0)*dM (dX m r p) r f i j-W (perm.getD (aP r p i) 0) j
  rw [lo i O,T];grind
 ·have Y:cK (n+1) x (m p)=0:=by
   have:=hx r O;rw [show dM (dX m r p) r f r=m p from funext X] at this;exact this
  have E:∀ i,i<r->cK (n+1) x (m i)=0:=fun i hi=>by
   have y:=hx i O;have e:dM (dX m r p) r f i=fun k=>1*m i k + -(f i)*m p k:=by
    funext k
    rw [lo i O];unfold dX;rw [if_neg O,if_neg O];grind
   rw [e,tn,Y] at y;grind
  have y:=h.back x E;intro q hq;rw [u] at hq;rcases List.mem_cons.1 hq with e | e
  ·rw [e];have J:=ni W (n+1) x _ _ (h.rest p w o) y;have v:(fun k=>s (perm.getD p 0)*m p k-W (perm.getD p 0) k)=fun k=>s (perm.getD p 0)*m p k+(-1)*W (perm.getD p 0) k:=by
    funext k
    grind
   rw [v,tn,Y] at J;grind
  ·exact y q e
 ·rw [u,B];refine vi W (d:=cY W (gM P r) (perm.take r).reverse) (R:=fun k=>cY W (gM P r) (perm.take r).reverse*s (perm.getD p 0)*m p k) h.ind H (fun j=>?_) (iE W (cY W (gM P r) (perm.take r).reverse) (h.rest p w o)) (fun g hg=>?_) I
  ·show _=cY W (gM P r) (perm.take r).reverse*W (perm.getD p 0) j+cY W (gM P r) (perm.take r).reverse*(s (perm.getD p 0)*m p j-W (perm.getD p 0) j)
   grind
  ·obtain ⟨j,hj,rfl⟩:=tK r hg;show _*m p (P j)=0
   rw [h.red.low p w o _ (h.red.at_ j hj),di]
 ·by_cases e:i=r+1
  ·rw [e,u,B,<- A];exact I
  ·rw [t i O,G i O];exact h.dnz i O
 ·by_cases e:i=r
  ·subst e;rw [u,B,<- A,t i zL,G i zL,z];simp only [if_true];rw [X];grind
  ·have C:i<r:=O
   have E:=h.led i C;rw [t i O,t (i+1) O,G i O,G (i+1) O,N i C];try dsimp only
   rw [if_neg e,lo i e,h.red.low p w o _ (h.red.at_ i C)];unfold dX;rw [if_neg e,if_neg O,di];rw [<- E];grind
def td (m:Nat->Nat->Rat) (P:Nat->Nat) (k:Nat):Nat->Nat->Rat
 | 0,q=>if q=k then -1 else 0
 | j+1,q=>if q=P j then m j k / m j (P j) else td m P k j q
theorem kI {q:Nat} : ∀ j,(∀ i,i<j->P i≠q)->td m P k j q=if q=k then -1 else 0
 | 0,_=>rfl
 | j+1,h=>by rw [td,if_neg (fun e=>h j O e.symm),kI j fun i hi=>h i O]
theorem te (h:xB n m r c P) (k i:Nat):∀ j,j<=r->i<j->td m P k j (P i)=m i k / m i (P i)
 | 0,_,hi=>absurd hi (Nat.not_lt_zero _)
 | j+1,hj,hi=>by
  rw [td];by_cases e:i=j
  ·subst e;rw [if_pos rfl]
  ·have:=h.up i j O O;rw [if_neg O];exact te h k i j O O
theorem zm {x R:Nat->Rat} {a b:Nat} (p:a≠b):∀ n,a<n->b<n->(∀ j,j<n->j≠a->j≠b->R j*x j=0)->cK n x R=R a*x a+R b*x b:=by
 have one:∀ n (q:Nat),q<n->(∀ j,j<n->j≠q->R j*x j=0)->cK n x R=R q*x q:=by
  intro n;induction n with
  | zero=>intro q v;omega
  | succ n ih =>
   intro q v o;rw [cK];by_cases e:q=n
   ·rw [e,mO x R n fun j t=>o j O O,lZ]
   ·rw [ih q O fun j t g=>o j O g,o n O O,cw]
 intro n;induction n with
 | zero=>intro h;omega
 | succ n ih =>
  intro ha hb o;rw [cK];by_cases e:b=n
  ·rw [e] at o p ⊢;rw [one n a O fun j t g=>o j O g O]
  ·by_cases u:a=n
   ·rw [u] at o p ⊢;rw [one n b O fun j t g=>o j O O g,xE]
   ·rw [ih O O fun j t w y=>o j O w y,o n O O O,cw]
theorem CR {s:Nat->Rat} (h:Gj n W s m r c P perm) (i:Nat) (hi:i<r) (k:Nat) (L:k<=n) (hP:∀ j,j<r->P j≠k) :
  ∃ γ,m i k*cY W (P i :: γ) (perm.take r).reverse=m i (P i)*cY W (k :: γ) (perm.take r).reverse/\cY W (P i :: γ) (perm.take r).reverse≠0:=by
 obtain ⟨o,I,M⟩:=se P i r hi;have u:=h.red;have A:∀ j,j<r->P j<n+1:=fun j z=>Nat.lt_of_lt_of_le (u.at_ j z) u.cn
 have w:=u.lead i hi;have C:cY W (P i :: (o++gM P i)) (perm.take r).reverse≠0:=by
  have p:=h.dnz r zL;rw [I] at p;rcases rK W (P i) (gM P i) o (perm.take r).reverse with e | e
  ·rw [e] at p;exact p
  ·intro e3;rw [e,e3] at p;exact p iM
 refine ⟨o++gM P i,?_,C⟩;have D:∀ j,j<r->cK (n+1) (td m P k r) (m j)=0:=fun j z=>by
  rw [zm (a:=k) (b:=P j) (fun e=>hP j z e.symm) (n+1) O (A j z) fun q G p H=>?_]
  ·rw [kI r hP,if_pos rfl,te u k j r zL z];have x:=A7 (m j k) (m j (P j)) (u.lead j z);rw [mT] at x;rw [x];grind
  ·by_cases g:∃ t,t<r/\P t=q
   ·obtain ⟨t,y,rfl⟩:=g;rw [u.other t y j (Nat.lt_of_lt_of_le z u.rn) (fun e=>H (by rw [e])),iR]
   ·rw [kI r fun t y e=>g ⟨t,y,e⟩,if_neg p,di]
 have J:=h.back _ D;have E:cE (fun j=>td m P k r j*cY W (j :: (o++gM P i)) (perm.take r).reverse) (List.range (n+1))=0:=by
  rw [<- zj];rw [rX (v:=fun _=>0) _ _ fun q G=>by rw [jW];exact J q G];exact rY _ _
 have e3:cE (fun j=>td m P k r j*cY W (j :: (o++gM P i)) (perm.take r).reverse) (List.range (n+1))=cK (n+1) (fun j=>cY W (j :: (o++gM P i)) (perm.take r).reverse) (td m P k r):=jW _ _ _;rw [e3,zm (a:=k) (b:=P i) (fun e=>hP i hi e.symm) (n+1) O (A i hi) fun q G p H=>?_,kI r hP,if_pos rfl,te u k i r zL hi] at E
 ·have x:=A7 (m i k) (m i (P i)) w;have B:m i k / m i (P i)*cY W (P i :: (o++gM P i)) (perm.take r).reverse=cY W (k :: (o++gM P i)) (perm.take r).reverse:=by
   rw [oO,jr] at E;have:=iA E;rw [jM] at this;exact this
  rw [<- B]
  calc m i k*cY W (P i :: (o++gM P i)) (perm.take r).reverse=(m i k / m i (P i)*m i (P i))*cY W (P i :: (o++gM P i)) (perm.take r).reverse:=by rw [x]
   _=_:=by grind
 ·by_cases g:∃ t,t<r/\P t=q
  ·obtain ⟨t,y,rfl⟩:=g;have K:P t∈o++gM P i:=by
    have x:=Ab (P:=P) r y;rw [I] at x;rcases List.mem_append.1 x with B | B
    ·exact List.mem_append.2 (.inl B)
    ·rcases List.mem_cons.1 B with F | F
     ·exact absurd F H
     ·exact List.mem_append.2 (.inr F)
   rw [oV W (P t) _ K,di]
  ·rw [kI r fun t y e=>g ⟨t,y,e⟩,if_neg p,iR]
end Rk
end Go.Proofs.YtbfohfjobncehaaGreatDoor
