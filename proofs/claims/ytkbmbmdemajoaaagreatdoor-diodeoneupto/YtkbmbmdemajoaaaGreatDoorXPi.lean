/- Contracts. -/
import Derived.Test.YtkbmbmdemajoaaaGreatDoorXPa
import Derived.Lib.ItoaNum
namespace Go.Proofs.YtkbmbmdemajoaaaGreatDoor
open Go.RowKit
set_option linter.unusedVariables false
set_option linter.unusedSimpArgs false
set_option maxHeartbeats 8000000
set_option maxRecDepth 10000
variable {d s b a:Rat} {n m c r k done i:Nat} {W R:Nat->Nat->Rat} {perm order ρ l:List Nat} {P:Nat->Nat} {Wh:Nat->Rat->Prop} {S R' f:Nat->Rat}
def fP (b:Bool) (n:Nat):Int:=if b then -(n:Int) else n
theorem Em (x:Int):fP (decide (x<0)) x.natAbs=x:=by
 unfold fP;by_cases h:x<0
 ·simp [h];omega
 ·simp [h];omega
theorem ou (b:Bool) (n:Nat):(fP b n).natAbs=n:=by unfold fP;cases b<;>simp
theorem sgq_neg (b:Bool) (n:Nat) (h:n≠0):decide (fP b n<0)=b:=by
 unfold fP;cases b<;>simp<;>omega
theorem mk_zero (b:Bool) (n d:Nat) (h:n=0∨d=0):mkRat (fP b n) d=0:=by
 rcases h with h | h
 ·subst h;have:fP b 0=0:=by unfold fP;cases b<;>rfl
  rw [this,Rat.zero_mkRat]
 ·subst h;rw [Rat.mkRat_zero]
theorem uL (b:Bool) (n d:Nat) (hn:n≠0) (hd:d≠0) :
  decide ((mkRat (fP b n) d).num<0)=b/\(mkRat (fP b n) d).num.natAbs=n / Nat.gcd n d/\(mkRat (fP b n) d).den=d / Nat.gcd n d:=by
 have hg:0<Nat.gcd n d:=Nat.gcd_pos_of_pos_left _ O;have o:((Nat.gcd n d:Nat):Int)∣fP b n:=by
  rw [<- Int.dvd_natAbs,ou];exact Int.natCast_dvd_natCast.2 (Nat.gcd_dvd_left n d)
 have j:(mkRat (fP b n) d).num=fP b n / (Nat.gcd n d:Nat):=by
  rw [Rat.num_mkRat,if_neg hd,ou,Nat.gcd_comm]
 have p:(mkRat (fP b n) d).den=d / Nat.gcd n d:=by
  rw [Rat.den_mkRat,if_neg hd,ou,Nat.gcd_comm d n]
 have g:(fP b n / (Nat.gcd n d:Nat)).natAbs=n / Nat.gcd n d:=by
  rw [Int.natAbs_ediv_of_dvd o,ou,Int.natAbs_natCast]
 have t:0<n / Nat.gcd n d:=Nat.div_pos (Nat.le_of_dvd O (Nat.gcd_dvd_left n d)) hg;refine ⟨?_,by rw [j,g],p⟩;rw [j];have e:fP b n=(fP b n / (Nat.gcd n d:Nat))*(Nat.gcd n d:Nat):=(Int.ediv_mul_cancel o).symm;have u:fP b n / (Nat.gcd n d:Nat)≠0:=by
  intro w;rw [w] at g;simp at g;omega
 have v:=sgq_neg b n hn;refine Eq.trans ?_ v;rw [Bool.eq_iff_iff,decide_eq_true_eq,decide_eq_true_eq];constructor
 ·intro h;rw [e];exact Int.mul_neg_of_neg_of_pos h O
 ·intro h;rw [e] at h;rcases Int.lt_trichotomy (fP b n / (Nat.gcd n d:Nat)) 0 with q | q | q
  ·exact q
  ·exact absurd q u
  ·exact absurd h (by have:=Int.mul_pos q (show (0:Int)<(Nat.gcd n d:Nat) by omega);omega)
def rB (q:Rat):Bool:=decide (q.num<0)
def rN (q:Rat):Nat:=q.num.natAbs
theorem fp (q:Rat):fP (rB q) (rN q)=q.num:=Em _
theorem sgq_mul (a b:Bool) (m n:Nat):fP (a != b) (m*n)=fP a m*fP b n:=by
 unfold fP;cases a<;>cases b<;>simp<;>grind
theorem q_mul (x y:Rat):mkRat (fP (rB x != rB y) (rN x*rN y)) (x.den*y.den)=x*y:=by
 rw [sgq_mul,fp,fp,Rat.mul_def']
theorem eO (b:Bool) (m n:Nat):fP b (m*n)=fP b m*n:=by
 unfold fP;cases b<;>simp
 grind
theorem DI (x y:Rat):mkRat (fP (rB x != rB y) (rN x*y.den)) (rN y*x.den)=x / y:=by
 by_cases hy:y=0
 ·subst hy;rw [show rN 0*x.den=0 by simp [rN],Rat.mkRat_zero,Rat.div_def,Rat.inv_zero,Rat.mul_zero]
 ·have g:y.num≠0:=fun h=>hy (Rat.num_eq_zero.1 h)
  have j:rN y≠0:=by unfold rN;omega
  have e:x / y=Rat.divInt (x.num*y.den) (x.den*y.num):=by
   rw [Rat.div_def,Rat.inv_def,<- Rat.divInt_mul_divInt,Rat.num_divInt_den]
  rw [e,<- Rat.divInt_ofNat,Rat.divInt_eq_divInt_iff (by have:=x.den_nz;simp;omega) (by
   have:=x.den_nz;intro h;rcases Int.mul_eq_zero.1 h with h | h
   ·omega
   ·exact g h)]
  rw [eO];have o:fP (rB x != rB y) (rN x)*y.num=x.num*(rN y:Nat):=by
   have p:=fp x;have q:=fp y;rw [<- p,<- q];unfold fP;cases rB x<;>cases rB y<;>simp<;>grind
  rw [Int.natCast_mul]
  calc fP (rB x != rB y) (rN x)*(y.den:Int)*((x.den:Int)*y.num)=(fP (rB x != rB y) (rN x)*y.num)*((y.den:Int)*x.den):=by grind
   _=x.num*(rN y:Nat)*((y.den:Int)*x.den):=by rw [o]
   _=x.num*(y.den:Int)*((rN y:Int)*(x.den:Int)):=by grind
theorem q_ne {x:Rat} (h:x≠0):rN x≠0:=by
 have:x.num≠0:=fun e=>h (Rat.num_eq_zero.1 e)
 unfold rN;omega
theorem DJ {x:Rat} (h:rN x=0):x=0:=by
 refine Rat.num_eq_zero.1 ?_;unfold rN at h;omega
def jS (b1:Bool) (m:Nat) (b2:Bool) (n:Nat):Bool:=if b1=b2 then b1 else if m<n then b2 else b1 && decide (0<m-n)
def iK (b1:Bool) (m:Nat) (b2:Bool) (n:Nat):Nat:=if b1=b2 then m+n else if m<n then n-m else m-n
theorem zy (e:Bool) (m:Nat) (g:Bool) (n:Nat):fP (jS e m g n) (iK e m g n)=fP e m+fP g n:=by
 unfold jS iK fP;by_cases h:e=g
 ·subst h;rw [if_pos rfl,if_pos rfl];cases e<;>simp<;>omega
 ·rw [if_neg h,if_neg h];by_cases j:m<n
  ·rw [if_pos j,if_pos j];cases e<;>cases g<;>simp_all<;>omega
  ·rw [if_neg j,if_neg j];by_cases o:0<m-n
   ·cases e<;>cases g<;>simp_all<;>omega
   ·have:m=n:=O
    subst this;cases e<;>cases g<;>simp_all<;>omega
theorem zx (e:Bool) (m:Nat) (g:Bool) (n:Nat) (o:e=true->0<m) (p:g=true->0<n):jS e m g n=true->0<iK e m g n:=by
 unfold jS iK;by_cases h:e=g
 ·subst h;rw [if_pos rfl,if_pos rfl];intro hb;have:=o hb;omega
 ·rw [if_neg h,if_neg h];by_cases j:m<n
  ·rw [if_pos j,if_pos j];intro _;omega
  ·rw [if_neg j,if_neg j];simp
theorem tu (g:Bool) (m:Nat) (j:Bool) (n:Nat) (h:k∣iK g m j n) (hn:k∣n):k∣m:=by
 unfold iK at h;by_cases e:g=j
 ·rw [if_pos e] at h;exact (Nat.dvd_add_left hn).1 h
 ·rw [if_neg e] at h;by_cases o:m<n
  ·rw [if_pos o] at h;have:m=n-(n-m):=O
   rw [this];exact Nat.dvd_sub hn h
  ·rw [if_neg o] at h;have:m=(m-n)+n:=O
   rw [this];exact Nat.dvd_add h hn
theorem qF (j:Bool) (m:Nat) (o:Bool) (n:Nat) (h:k∣iK j m o n) (g:k∣m):k∣n:=by
 unfold iK at h;by_cases e:j=o
 ·rw [if_pos e] at h;exact (Nat.dvd_add_right g).1 h
 ·rw [if_neg e] at h;by_cases p:m<n
  ·rw [if_pos p] at h;have:n=(n-m)+m:=O
   rw [this];exact Nat.dvd_add h g
  ·rw [if_neg p] at h;have:n=m-(m-n):=O
   rw [this];exact Nat.dvd_sub g h
def jM (b1:Bool) (n1 d1:Nat) (b2:Bool) (n2 d2:Nat):Nat:=iK b1 (n1*(d2 / Nat.gcd d1 d2)) b2 (n2*(d1 / Nat.gcd d1 d2))
def DD (b1:Bool) (n1 d1:Nat) (b2:Bool) (n2 d2:Nat):Bool:=jS b1 (n1*(d2 / Nat.gcd d1 d2)) b2 (n2*(d1 / Nat.gcd d1 d2))
theorem uW (p q:Bool) {j g o e:Nat} (V:Nat.gcd j g=1) (X:Nat.gcd o e=1) (Y:0<g) (p2:0<e) :
  0<g / Nat.gcd g e*(e / Nat.gcd (jM p j g q o e) (Nat.gcd g e))
  /\ Nat.gcd (jM p j g q o e / Nat.gcd (jM p j g q o e) (Nat.gcd g e)) (g / Nat.gcd g e*(e / Nat.gcd (jM p j g q o e) (Nat.gcd g e)))=1:=by
 obtain ⟨T,U⟩:=eX (jM p j g q o e);obtain ⟨G,u⟩:=eX (Nat.gcd g e);obtain ⟨x,ex⟩:=eX (g / G);obtain ⟨y,K⟩:=eX (e / G);have B:0<G:=by rw [u];exact Nat.gcd_pos_of_pos_left _ Y
 have L:g=G*x:=by rw [ex,u];exact (Nat.mul_div_cancel' (Nat.gcd_dvd_left g e)).symm
 have C:e=G*y:=by rw [K,u];exact (Nat.mul_div_cancel' (Nat.gcd_dvd_right g e)).symm
 have w:Nat.Coprime x y:=by rw [ex,K,u];exact Nat.coprime_div_gcd_div_gcd (by rw [<- u];exact B)
 have M:T=iK p (j*y) q (o*x):=by rw [U,ex,K,u];rfl
 rw [<- U,<- u,<- ex];obtain ⟨H,v⟩:=eX (Nat.gcd T G);rw [<- v];have N:0<H:=by rw [v];exact Nat.gcd_pos_of_pos_right _ B
 have z:H∣G:=by rw [v];exact Nat.gcd_dvd_right _ _
 have D:H∣T:=by rw [v];exact Nat.gcd_dvd_left _ _
 have e3:e / H=G / H*y:=by rw [C,Nat.mul_comm,Nat.mul_div_assoc _ z,Nat.mul_comm]
 have px:0<x:=by
  rcases zP x with h | h
  ·rw [h,Nat.mul_zero] at L;omega
  ·exact h
 have py:0<y:=by
  rcases zP y with h | h
  ·rw [h,Nat.mul_zero] at C;omega
  ·exact h
 have cx:Nat.Coprime T x:=by
  have E:Nat.gcd T x∣T:=Nat.gcd_dvd_left _ _;have t:Nat.gcd T x∣x:=Nat.gcd_dvd_right _ _;have F:Nat.gcd T x∣j*y:=tu p _ q _ (by rw [<- M];exact E) (Nat.dvd_trans t (Nat.dvd_mul_left _ _));have I:Nat.Coprime (Nat.gcd T x) y:=Nat.Coprime.coprime_dvd_left t w;have J:Nat.gcd T x∣j:=Nat.Coprime.dvd_of_dvd_mul_right I F;have A:Nat.gcd T x∣Nat.gcd j g:=Nat.dvd_gcd J (Nat.dvd_trans t (by rw [L];exact Nat.dvd_mul_left _ _));rw [V] at A;exact Nat.dvd_one.1 A
 have cy:Nat.Coprime T y:=by
  have E:Nat.gcd T y∣T:=Nat.gcd_dvd_left _ _;have t:Nat.gcd T y∣y:=Nat.gcd_dvd_right _ _;have F:Nat.gcd T y∣o*x:=qF p _ q _ (by rw [<- M];exact E) (Nat.dvd_trans t (Nat.dvd_mul_left _ _));have I:Nat.Coprime (Nat.gcd T y) x:=Nat.Coprime.coprime_dvd_left t w.symm;have J:Nat.gcd T y∣o:=Nat.Coprime.dvd_of_dvd_mul_right I F;have A:Nat.gcd T y∣Nat.gcd o e:=Nat.dvd_gcd J (Nat.dvd_trans t (by rw [C];exact Nat.dvd_mul_left _ _));rw [X] at A;exact Nat.dvd_one.1 A
 have Q:T / H∣T:=Nat.div_dvd_of_dvd D;have c1:Nat.Coprime (T / H) x:=Nat.Coprime.coprime_dvd_left Q cx;have c2:Nat.Coprime (T / H) y:=Nat.Coprime.coprime_dvd_left Q cy;have c3:Nat.Coprime (T / H) (G / H):=by
  have hh:0<Nat.gcd T G:=by rw [<- v];exact N
  have:=Nat.coprime_div_gcd_div_gcd hh;rw [<- v] at this;exact this
 rw [e3];refine ⟨Nat.mul_pos px (Nat.mul_pos (Nat.div_pos (Nat.le_of_dvd B z) N) py),?_⟩;exact Nat.Coprime.mul_right c1 (Nat.Coprime.mul_right c3 c2)
theorem za (p q:Rat) :
  mkRat (fP (DD (rB p) (rN p) p.den (rB q) (rN q) q.den) (jM (rB p) (rN p) p.den (rB q) (rN q) q.den / Nat.gcd (jM (rB p) (rN p) p.den (rB q) (rN q) q.den) (Nat.gcd p.den q.den)))
   (p.den / Nat.gcd p.den q.den*(q.den / Nat.gcd (jM (rB p) (rN p) p.den (rB q) (rN q) q.den) (Nat.gcd p.den q.den)))=p+q:=by
 obtain ⟨T,x⟩:=eX (jM (rB p) (rN p) p.den (rB q) (rN q) q.den);obtain ⟨B,y⟩:=eX (DD (rB p) (rN p) p.den (rB q) (rN q) q.den);obtain ⟨G,e⟩:=eX (Nat.gcd p.den q.den);have z:0<p.den:=p.den_pos;have j:0<G:=by rw [e];exact Nat.gcd_pos_of_pos_left _ z
 have w:G*(p.den / G)=p.den:=by rw [e];exact Nat.mul_div_cancel' (Nat.gcd_dvd_left _ _)
 have A:G*(q.den / G)=q.den:=by rw [e];exact Nat.mul_div_cancel' (Nat.gcd_dvd_right _ _)
 have C:fP B T=fP (rB p) (rN p*(q.den / G))+fP (rB q) (rN q*(p.den / G)):=by
  rw [y,x,e];exact zy _ _ _ _
 rw [<- x,<- y,<- e];obtain ⟨H,h⟩:=eX (Nat.gcd T G);rw [<- h];have D:0<H:=by rw [h];exact Nat.gcd_pos_of_pos_right _ j
 have o:H∣G:=by rw [h];exact Nat.gcd_dvd_right _ _
 have t:H∣T:=by rw [h];exact Nat.gcd_dvd_left _ _
 have u:H∣q.den:=Nat.dvd_trans o (by rw [e];exact Nat.gcd_dvd_right _ _);rw [<- Rat.mkRat_mul_left (a:=G*H) (by have:=Nat.mul_pos j D;omega),Rat.add_def'];have g:T / H*H=T:=Nat.div_mul_cancel t;have v:q.den / H*H=q.den:=Nat.div_mul_cancel u;congr 1
 ·have:((G*H:Nat):Int)*fP B (T / H)=fP B T*(G:Nat):=by
   rw [<- g,eO B (T / H) H,Int.natCast_mul,g];grind
  rw [this,C,eO,eO,fp,fp];have f1:((q.den:Nat):Int)=(G:Nat)*((q.den / G:Nat):Int):=by rw [<- Int.natCast_mul,A]
  have E:((p.den:Nat):Int)=(G:Nat)*((p.den / G:Nat):Int):=by rw [<- Int.natCast_mul,w]
  rw [f1];conv=>rhs;rw [E]
  have F:q.den / G=q.den / G:=rfl;have I:G*(q.den / G) / G=q.den / G:=by rw [Nat.mul_div_cancel_left _ j]
  grind
 ·calc G*H*(p.den / G*(q.den / H))=(G*(p.den / G))*(q.den / H*H):=by ac_rfl
   _=p.den*q.den:=by rw [w,v]
namespace Nums
theorem tJ (a b c:Rat):a+b+c=a+(b+c):=Rat.add_assoc a b c
theorem wN (a b:Rat):a+b=b+a:=Rat.add_comm a b
theorem kU (a:Rat):0+a=a:=Rat.zero_add a
theorem Dh (a:Rat):-a+a=0:=Rat.neg_add_cancel a
theorem subE (a b:Rat):a-b=a + -b:=Rat.sub_eq_add_neg a b
theorem mulA (a b c:Rat):a*b*c=a*(b*c):=Rat.mul_assoc a b c
theorem l8 (a b:Rat):a*b=b*a:=Rat.mul_comm a b
theorem iZ (a:Rat):1*a=a:=Rat.one_mul a
theorem lQ (a b c:Rat):a*(b+c)=a*b+a*c:=Rat.mul_add a b c
theorem Am (a b:Rat) (h:b≠0):a / b*b=a:=Rat.div_mul_cancel h
theorem Dy:(1:Rat)≠0:=zD
theorem cd (a:Rat):a+0=a:=by rw [wN,kU]
theorem oF (a:Rat):a + -a=0:=by rw [wN,Dh]
theorem sb (a:Rat):a*1=a:=by rw [l8,iZ]
theorem qT (a b c:Rat):(a+b)*c=a*c+b*c:=by rw [l8,lQ,l8 c a,l8 c b]
theorem canc {c:Rat} (h:a+b=a+c):b=c:=by
 have:-a+(a+b) = -a+(a+c):=by rw [h]
 rw [<- tJ,<- tJ,Dh,kU,kU] at this;exact this
theorem cY (a:Rat):a*0=0:=by
 apply canc (a:=a*0);rw [<- lQ,cd,cd]
theorem iB (a:Rat):0*a=0:=by rw [l8,cY]
theorem gU (h:a+b=0):b = -a:=by
 apply canc (a:=a);rw [h,oF]
theorem nN (a b:Rat):-a*b = -(a*b):=by
 apply gU;rw [<- qT,oF,iB]
theorem oJ (a b:Rat):a * -b = -(a*b):=by rw [l8,nN,l8]
theorem jz (a:Rat):-(-a)=a:=(gU (Dh a)).symm
theorem xG (a b:Rat):-(a+b) = -a + -b:=by
 apply Eq.symm;apply gU
 calc a+b+(-a + -b)=(a + -a)+(b + -b):=by grind
  _=0:=by rw [oF,oF,cd]
theorem ix:-(0:Rat)=0:=(gU (cd 0)).symm
theorem kx (h:a + -b=0):a=b:=by
 have:=gU h;have e:-(-b) = -(-a):=by rw [this]
 rw [jz,jz] at e;exact e.symm
theorem gR (h:b≠0):1 / b*b=1:=Am 1 b h
theorem Ck (a:Rat) (h:b≠0):a / b=a*(1 / b):=by
 calc a / b=a / b*(1 / b*b):=by rw [gR h,sb]
  _=(a / b*b)*(1 / b):=by grind
  _=a*(1 / b):=by rw [Am a b h]
theorem Cn {c:Rat} (h:b≠0) (e:c*b=a):a / b=c:=by
 rw [Ck a h,<- e,mulA,l8 b,gR h,sb]
theorem wD (h:b≠0):0 / b=0:=Cn h (iB b)
theorem gT (ha:a≠0) (hb:b≠0):a*b≠0:=by
 intro h;apply hb
 calc b=1 / a*a*b:=by rw [gR ha,iZ]
  _=1 / a*(a*b):=by rw [mulA]
  _=0:=by rw [h,cY]
theorem iC (ha:a≠0) (h:a*b=0):b=0:=by
 apply Classical.byContradiction;intro hb;exact gT ha hb h
theorem Di (h:a≠0):-a≠0:=by
 intro e;apply h;rw [<- jz a,e,ix]
end Nums
open Nums
def gC (v:Nat->Rat):(List Nat->Rat)->List Nat->Rat
 | _,[]=>0
 | f,a :: l=>v a*f l + -(gC v (fun l'=>f (a :: l')) l)
theorem nZ (u:Nat->Rat) (c:Rat):∀ (l:List Nat) (g h:List Nat->Rat),
  gC u (fun e=>c*g e+h e) l=c*gC u g l+gC u h l:=by
 intro l;induction l with
 | nil=>intro g h;simp only [gC];rw [cY,cd]
 | cons a l ih =>
  intro g h;simp only [gC];rw [ih (fun e=>g (a :: e)) (fun e=>h (a :: e))];simp only [lQ,xG,oJ];grind
theorem uB (u:Nat->Rat):∀ (l:List Nat),gC u (fun _=>0) l=0:=by
 intro l;induction l with
 | nil=>rfl
 | cons a l ih=>simp only [gC];rw [ih,cY,ix,cd]
theorem lY (u:Nat->Rat) (h:List Nat->Rat) (l:List Nat):gC u (fun e=>-(h e)) l = -(gC u h l):=by
 have:=nZ u (-1) l h (fun _=>0);rw [uB,cd,nN,iZ] at this;rw [<- this];congr 1
 funext e
 rw [nN,iZ,cd]
theorem lap_alt (v:Nat->Rat):∀ (l:List Nat) (f:List Nat->Rat),gC v (gC v f) l=0:=by
 intro l;induction l with
 | nil=>intro f;rfl
 | cons a l ih =>
  intro f;show v a*gC v f l + -(gC v (fun g=>v a*f g + -(gC v (fun e=>f (a :: e)) g)) l)=0
  rw [nZ v (v a) l f (fun g=>-(gC v (fun e=>f (a :: e)) g)),lY,ih,ix,cd,oF]
theorem CV (u v:Nat->Rat):∀ (l:List Nat) (f:List Nat->Rat),gC u (gC v f) l = -(gC v (gC u f) l):=by
 intro l;induction l with
 | nil=>intro f;exact ix.symm
 | cons a l ih =>
  intro f;show u a*gC v f l + -(gC u (fun g=>v a*f g + -(gC v (fun e=>f (a :: e)) g)) l)
   = -(v a*gC u f l + -(gC v (fun g=>u a*f g + -(gC u (fun e=>f (a :: e)) g)) l))
  rw [nZ u (v a) l f (fun g=>-(gC v (fun e=>f (a :: e)) g)),lY,ih,
   nZ v (u a) l f (fun g=>-(gC u (fun e=>f (a :: e)) g)),lY]
  simp only [xG,jz];grind
def cP (W:Nat->Nat->Rat):List Nat->List Nat->Rat
 | [],_=>1
 | j :: γ,l=>gC (fun r=>W r j) (cP W γ) l
theorem tZ (W:Nat->Nat->Rat) (c j:Nat) (e:List Nat):∀ (γ1 l:List Nat),cP W (γ1++c :: j :: e) l = -(cP W (γ1++j :: c :: e) l):=by
 intro γ1;induction γ1 with
 | nil=>intro l;exact CV _ _ l _
 | cons g γ1 ih =>
  intro l;have:cP W (γ1++c :: j :: e)=fun l=>-(cP W (γ1++j :: c :: e) l):=funext ih
  simp only [List.cons_append,cP];rw [this,lY]
theorem nX (W:Nat->Nat->Rat) (j:Nat):∀ (γ:List Nat),j∈γ->∀ l,cP W (j :: γ) l=0:=by
 intro γ;induction γ with
 | nil=>intro h;simp at h
 | cons c γ ih =>
  intro h l;by_cases hc:j=c
  ·subst hc;exact lap_alt _ l _
  ·have g:j∈γ:=by simpa [hc] using h
   have:=tZ W j c γ [] l;simp only [List.nil_append] at this;rw [this];have e:cP W (j :: γ)=fun _=>0:=funext (ih g)
   simp only [cP] at e ⊢;rw [e,uB,ix]
theorem qP (W:Nat->Nat->Rat) (j:Nat) (g:List Nat):∀ (γ1 l:List Nat),
  cP W (γ1++j :: g) l=cP W (j :: (γ1++g)) l∨cP W (γ1++j :: g) l = -(cP W (j :: (γ1++g)) l):=by
 have o:∀ γ1:List Nat,(∀ l,cP W (γ1++j :: g) l=cP W (j :: (γ1++g)) l)∨(∀ l,cP W (γ1++j :: g) l = -(cP W (j :: (γ1++g)) l)):=by
  intro γ1;induction γ1 with
  | nil=>exact .inl fun _=>rfl
  | cons c γ1 ih =>
   have p:∀ l,cP W (j :: c :: (γ1++g)) l = -(cP W (c :: j :: (γ1++g)) l):=fun l=>by
    have:=tZ W j c (γ1++g) [] l;simpa only [List.nil_append] using this
   rcases ih with ih | ih
   ·right
    intro l;have e:cP W (γ1++j :: g)=cP W (j :: (γ1++g)):=funext ih;show gC _ (cP W (γ1++j :: g)) l=_
    rw [e];show cP W (c :: j :: (γ1++g)) l = -(cP W (j :: c :: (γ1++g)) l)
    rw [p,jz]
   ·left
    intro l;have e:cP W (γ1++j :: g)=fun l=>-(cP W (j :: (γ1++g)) l):=funext ih
    show gC _ (cP W (γ1++j :: g)) l=_
    rw [e,lY];show -(cP W (c :: j :: (γ1++g)) l)=cP W (j :: c :: (γ1++g)) l
    rw [p]
 intro γ1 l;rcases o γ1 with h | h
 ·exact .inl (h l)
 ·exact .inr (h l)
structure tI (Wh:Nat->Rat->Prop):Prop where
 zero:∀ b,Wh b 0
 one:∀ b,1<=b->Wh b 1
 add:∀ b c x y,Wh b x->Wh c y->Wh (b+c) (x+y)
 mul:∀ b c x y,Wh b x->Wh c y->Wh (b*c) (x*y)
 neg:∀ b x,Wh b x->Wh b (-x)
 mono:∀ b c x,b<=c->Wh b x->Wh c x
theorem lap_wh (g:tI Wh) (v:Nat->Rat) (K:Nat):∀ (l:List Nat) (f:List Nat->Rat),
  (∀ p a q,l=p++a :: q->Wh K (v a*f (p++q)))->Wh (l.length*K) (gC v f l):=by
 intro l;induction l with
 | nil=>intro f _;exact g.zero _
 | cons a l ih =>
  intro f h;have j:=ih (fun t=>f (a :: t)) (fun p b q e=>h (a :: p) b q (by rw [e];rfl));have o:Wh K (v a*f l):=h [] a l rfl;have:=g.add _ _ _ _ o (g.neg _ _ j);refine g.mono _ _ _ ?_ this;rw [List.length_cons,Nat.add_mul,Nat.one_mul,Nat.add_comm];exact zL
def aV (b:Nat->Nat):List Nat->Nat
 | []=>1
 | a :: l=>b a*aV b l
theorem jd (b:Nat->Nat):∀ l l':List Nat,aV b (l++l')=aV b l*aV b l':=by
 intro l l';induction l with
 | nil=>simp [aV]
 | cons a l ih=>simp only [List.cons_append,aV];rw [ih,Nat.mul_assoc]
theorem kC (b:Nat->Nat) (hb:∀ r,1<=b r):∀ l:List Nat,1<=aV b l:=by
 intro l;induction l with
 | nil=>exact zL
 | cons a l ih=>exact Nat.mul_pos (hb a) ih
theorem o9 (g:tI Wh) (W:Nat->Nat->Rat) (b:Nat->Nat) (hb:∀ r,1<=b r) (u:∀ r j,Wh (b r) (W r j)) (N:Nat) (t:0<N):∀ (γ l:List Nat),
  l.length<=N->Wh (aV (fun r=>N*b r) l) (cP W γ l):=by
 have h:∀ r,1<=N*b r:=fun r=>Nat.mul_pos t (hb r)
 intro γ;induction γ with
 | nil=>intro l _;exact g.one _ (kC _ h l)
 | cons j γ ih =>
  intro l o;have:=lap_wh g (fun r=>W r j) (aV (fun r=>N*b r) l / N) l (cP W γ) (by
   intro p a q e;have v:=g.mul _ _ _ _ (u a j) (ih (p++q) (by rw [e] at o;simp at o ⊢;omega));refine g.mono _ _ _ ?_ v;have w:aV (fun r=>N*b r) l=N*(b a*aV (fun r=>N*b r) (p++q)):=by
    rw [e,jd,jd];simp only [aV];grind
   rw [w,Nat.mul_div_cancel_left _ t];exact zL)
  refine g.mono _ _ _ ?_ this;exact Nat.le_trans (Nat.mul_le_mul o zL) (Nat.mul_div_le _ _)
def fe (W:Nat->Nat->Rat):List Nat->(Nat->Rat)->Prop
 | [],R=>∀ j,R j=0
 | r :: ρ,R=>∃ c S,fe W ρ S/\∀ j,R j=c*W r j+S j
theorem jF (W:Nat->Nat->Rat) {R:Nat->Rat} (h:∀ j,R j=R' j) (e:fe W ρ R):fe W ρ R':=by
 have:R=R':=funext h;rw [<- this];exact e
theorem mx (W:Nat->Nat->Rat) (a b:Rat):∀ (ρ:List Nat) (R R':Nat->Rat),fe W ρ R->fe W ρ R'->fe W ρ (fun j=>a*R j+b*R' j):=by
 intro ρ;induction ρ with
 | nil=>intro R R' h o j;simp only [];rw [h j,o j,cY,cY,cd]
 | cons r ρ ih =>
  rintro R R' ⟨c,S,hS,e⟩ ⟨p,q,g,t⟩;refine ⟨a*c+b*p,_,ih S q hS g,fun j=>?_⟩;simp only [];rw [e j,t j];simp only [lQ,qT];grind
theorem rR (W:Nat->Nat->Rat):∀ (ρ:List Nat),fe W ρ (fun _=>0):=by
 intro ρ;induction ρ with
 | nil=>intro j;rfl
 | cons r ρ ih=>exact ⟨0,_,ih,fun j=>by simp only [];rw [iB,cd]⟩
theorem ia (W:Nat->Nat->Rat) (a:Rat) {R:Nat->Rat} (h:fe W ρ R):fe W ρ (fun j=>a*R j) :=
 jF W (fun j=>by rw [cY,cd]) (mx W a 0 ρ R (fun _=>0) h (rR W ρ))
theorem vG (W:Nat->Nat->Rat) {R:Nat->Rat} (h:fe W ρ R) (e:fe W ρ R'):fe W ρ (fun j=>R j+R' j) :=
 jF W (fun j=>by rw [iZ,iZ]) (mx W 1 1 ρ R R' h e)
theorem rQ (W:Nat->Nat->Rat) (r:Nat) {R:Nat->Rat} (h:fe W ρ R):fe W (r :: ρ) R :=
 ⟨0,R,h,fun j=>by rw [iB,kU]⟩
theorem vH (W:Nat->Nat->Rat) (r:Nat) (ρ:List Nat) (c:Rat) (h:fe W ρ S):fe W (r :: ρ) (fun j=>c*W r j+S j) :=
 ⟨c,S,h,fun _=>rfl⟩
theorem En (W:Nat->Nat->Rat):∀ (ρ:List Nat) (f:List Nat->Rat),fe W ρ (fun j=>gC (fun r=>W r j) f ρ):=by
 intro ρ;induction ρ with
 | nil=>intro f j;rfl
 | cons a ρ ih =>
  intro f;refine ⟨f ρ,_,ia W (-1) (ih (fun e=>f (a :: e))),fun j=>?_⟩;simp only [gC];rw [nN,iZ,l8]
def Ind (W:Nat->Nat->Rat) (ρ γ:List Nat):Prop:=∀ S,fe W ρ S->(∀ c∈γ,S c=0)->∀ j,S j=0
theorem yH (W:Nat->Nat->Rat):Ind W [] []:=fun _ h _ j=>h j
theorem th (W:Nat->Nat->Rat) {γ:List Nat} {R:Nat->Rat} (q:Ind W ρ γ) (hd:d=s*cP W γ ρ)
  (hR:∀ j,R j=d*W i j+S j) (hS:fe W ρ S) (h0:∀ c∈γ,R c=0):∀ j,R j=s*cP W (j :: γ) (i :: ρ):=by
 intro j;have g:∀ j,s*cP W (j :: γ) (i :: ρ)=d*W i j + -(s*gC (fun r=>W r j) (fun e=>cP W γ (i :: e)) ρ):=by
  intro j;show s*(W i j*cP W γ ρ + -(gC (fun r=>W r j) (fun e=>cP W γ (i :: e)) ρ))=_
  rw [lQ,oJ,hd];congr 1
  grind
 have h:=q (fun j=>S j+s*gC (fun r=>W r j) (fun e=>cP W γ (i :: e)) ρ) (vG W hS (ia W s (En W ρ _))) (by
  intro c hc;have o:=h0 c hc;rw [hR c] at o;have p:=g c;rw [nX W c γ hc,cY] at p;have t:=gU o;have u:s*gC (fun r=>W r c) (fun e=>cP W γ (i :: e)) ρ=d*W i c:=(kx p.symm).symm;rw [t,u,Dh]) j
 rw [hR j,g j];congr 1
 rw [wN] at h;exact gU h
theorem uu (W:Nat->Nat->Rat) {γ:List Nat} {R:Nat->Rat} (y:Ind W ρ γ) (hd:d≠0)
  (hR:∀ j,R j=d*W i j+S j) (hS:fe W ρ S) (h0:∀ c∈γ,R c=0) (hc:R c≠0):Ind W (i :: ρ) (c :: γ):=by
 rintro B ⟨e,C,p,w⟩ x;have q:∀ j,B j=e*(1 / d)*R j:=by
  intro j;have t:=y (fun j=>C j + -(e*(1 / d))*S j) (vG W p (ia W _ hS)) (by
   intro g hg;have h:=x g (List.mem_cons_of_mem _ hg);have u:=h0 g hg;rw [w g] at h;rw [hR g] at u;have z:=gU h;have A:=gU u;rw [z,A,nN,oJ,jz];have:e*(1 / d)*(d*W i g)=e*W i g:=by
    calc e*(1 / d)*(d*W i g)=e*(1 / d*d)*W i g:=by grind
     _=e*W i g:=by rw [gR hd,sb]
   rw [this,Dh]) j
  rw [wN] at t;have v:=gU t;rw [nN,jz] at v;rw [w j,hR j,lQ,v];congr 1
  calc e*W i j=e*(1 / d*d)*W i j:=by rw [gR hd,sb]
   _=e*(1 / d)*(d*W i j):=by grind
 have o:e*(1 / d)=0:=by
  have h:=x c (List.mem_cons_self ..);rw [q c,l8] at h;exact iC hc h
 intro j;rw [q j,o,iB]
theorem Ed (W:Nat->Nat->Rat) {p:Rat} {R g:Nat->Rat} {i':Nat} {e:Rat} (l:Rat) (hd:d≠0)
  (hR:∀ j,R j=e*W i j+S j) (hS:fe W ρ S) (hR':∀ j,R' j=d*W i' j+g j) (hS':fe W ρ g) :
  ∃ T,fe W (i :: ρ) T/\∀ j,(p*R' j-l*R j) / d=p*W i' j+T j:=by
 have h:=vH W i ρ e hS;have o:=mx W (p*(1 / d)) (-(l*(1 / d))) (i :: ρ) g (fun j=>e*W i j+S j) (rQ W i hS') h;refine ⟨_,o,fun j=>?_⟩;rw [Ck _ hd,subE,hR' j,<- hR j,qT,nN,nN,lQ,qT];have q:p*(d*W i' j)*(1 / d)=p*W i' j:=by
  calc p*(d*W i' j)*(1 / d)=p*(1 / d*d)*W i' j:=by grind
   _=p*W i' j:=by rw [gR hd,sb]
 have t:p*g j*(1 / d)=p*(1 / d)*g j:=by grind
 have u:l*R j*(1 / d)=l*(1 / d)*R j:=by grind
 rw [q,t,u,tJ]
def cX:Nat->(Nat->Rat)->(Nat->Rat)->Rat
 | 0,_,_=>0
 | n+1,x,R=>cX n x R+R n*x n
theorem sG (x:Nat->Rat) (a b:Rat) (R R':Nat->Rat):∀ n,cX n x (fun j=>a*R j+b*R' j)=a*cX n x R+b*cX n x R':=by
 intro n;induction n with
 | zero=>simp only [cX];rw [cY,cY,cd]
 | succ n ih=>simp only [cX];rw [ih];simp only [lQ,qT];grind
theorem Ap (x e R R':Nat->Rat):∀ n,(∀ j,j<n->R j*x j=R' j*e j)->cX n x R=cX n e R':=by
 intro n;induction n with
 | zero=>intro _;rfl
 | succ n ih=>intro h;simp only [cX];rw [ih (fun j g=>h j O),h n O]
theorem lS (x R:Nat->Rat):∀ n,(∀ j,j<n->R j*x j=0)->cX n x R=0:=by
 intro n;induction n with
 | zero=>intro _;rfl
 | succ n ih=>intro h;simp only [cX];rw [ih (fun j e=>h j O),h n O,cd]
theorem lR (x:Nat->Rat) (c:Rat) (R S:Nat->Rat) (n:Nat):cX n x (fun j=>c*R j+S j)=c*cX n x R+cX n x S:=by
 have:=sG x c 1 R S n;rw [iZ] at this;rw [<- this];congr 1
 funext j
 rw [iZ]
theorem mw (W:Nat->Nat->Rat) (n:Nat) (x:Nat->Rat):∀ (ρ:List Nat) (S:Nat->Rat),fe W ρ S->(∀ r∈ρ,cX n x (W r)=0)->cX n x S=0:=by
 intro ρ;induction ρ with
 | nil =>
  intro S h _;exact lS x S n (fun j _=>by rw [h j,iB])
 | cons r ρ ih =>
  rintro S ⟨c,o,g,e⟩ h;have:S=fun j=>c*W r j+o j:=funext e
  rw [this,lR,h r (List.mem_cons_self ..),ih o g (fun q p=>h q (List.mem_cons_of_mem _ p)),cY,cd]
open Nums
def cB (f:Nat->Rat):List Nat->Rat
 | []=>0
 | a :: l=>f a+cB f l
theorem vR (f:Nat->Rat):∀ l l':List Nat,cB f (l++l')=cB f l+cB f l':=by
 intro l l';induction l with
 | nil=>exact (kU _).symm
 | cons a l ih=>simp only [List.cons_append,cB];rw [ih,tJ]
theorem mZ (f:Nat->Rat):∀ l:List Nat,(∀ j∈l,f j=0)->cB f l=0:=by
 intro l;induction l with
 | nil=>intro _;rfl
 | cons a l ih=>intro h;simp only [cB];rw [h a (List.mem_cons_self ..),ih (fun j e=>h j (List.mem_cons_of_mem _ e)),cd]
theorem qe (f g:Nat->Rat):∀ l:List Nat,(∀ j∈l,f j=g j)->cB f l=cB g l:=by
 intro l;induction l with
 | nil=>intro _;rfl
 | cons a l ih=>intro h;simp only [cB];rw [h a (List.mem_cons_self ..),ih (fun j e=>h j (List.mem_cons_of_mem _ e))]
theorem Es (c:Rat) (f:Nat->Rat):∀ l:List Nat,cB (fun j=>c*f j) l=c*cB f l:=by
 intro l;induction l with
 | nil=>exact (cY c).symm
 | cons a l ih=>simp only [cB];rw [ih,lQ]
theorem jG (x R:Nat->Rat):∀ n,cB (fun j=>R j*x j) (List.range n)=cX n x R:=by
 intro n;induction n with
 | zero=>rfl
 | succ n ih=>rw [List.range_succ,vR,ih];simp only [cB,cX];rw [cd]
theorem vS (f:Nat->Rat) (v:Nat):∀ (l:List Nat) (i:Nat),i<l.length->cB f (l.set i v)+f (l.getD i 0)=cB f l+f v:=by
 intro l;induction l with
 | nil=>intro i h;simp at h
 | cons a l ih =>
  intro i h;cases i with
  | zero=>simp only [List.set_cons_zero,cB,List.getD_cons_zero];grind
  | succ i =>
   simp only [List.set_cons_succ,cB,List.getD_cons_succ];have:=ih i (by simpa using h);rw [tJ,this,tJ]
theorem rH (f:Nat->Nat) (v:Nat):∀ (l:List Nat) (i:Nat),i<l.length->aV f (l.set i v)*f (l.getD i 0)=aV f l*f v:=by
 intro l;induction l with
 | nil=>intro i h;simp at h
 | cons a l ih =>
  intro i h;cases i with
  | zero=>simp only [List.set_cons_zero,aV,List.getD_cons_zero];grind
  | succ i =>
   simp only [List.set_cons_succ,aV,List.getD_cons_succ];have:=ih i (by simpa using h);rw [Nat.mul_assoc,this,Nat.mul_assoc]
def dE (l:List Nat) (i j:Nat):List Nat:=(l.set i (l.getD j 0)).set j (l.getD i 0)
def aM (a b i:Nat):Nat:=if i=b then a else if i=a then b else i
theorem gM (l:List Nat) (i j:Nat):(dE l i j).length=l.length:=by simp [dE]
theorem cG (l:List Nat) (a b i:Nat) (ha:a<l.length) (hb:b<l.length):(dE l a b).getD i 0=l.getD (aM a b i) 0:=by
 unfold dE aM;simp only [zW,List.getElem?_set,List.length_set];by_cases h:b=i
 ·subst h;simp [hb]
 ·have g:i≠b:=fun e=>h e.symm
  by_cases j:a=i
  ·subst j;simp [h,g,ha]
  ·have o:i≠a:=fun e=>j e.symm
   simp [h,g,j,o]
theorem dp {a b:Nat} (ha:a<m) (hb:b<m) (hi:i<m):aM a b i<m:=by
 unfold aM;split
 ·exact ha
 ·split<;>assumption
theorem vT {a b:Nat} (ha:k<=a) (hb:k<=b) (hi:k<=i):k<=aM a b i:=by
 unfold aM;split
 ·exact ha
 ·split<;>assumption
theorem kI {a b:Nat} (ha:k<=a) (hb:k<=b) (hi:i<k):aM a b i=i:=by
 unfold aM;rw [if_neg O,if_neg O]
theorem eK (a b i:Nat):aM a b (aM a b i)=i:=by
 unfold aM;by_cases g:i=b
 ·subst g;by_cases e:a=i
  ·subst e;simp
  ·simp [e]
 ·by_cases e:i=a
  ·subst e;simp [g]
  ·simp [g,e]
theorem dm (l:List Nat) (i:Nat) (h:i<l.length):l.getD i 0∈l:=by
 rw [zW,zX h];exact List.getElem_mem h
theorem fk {v:Nat} (h:v∈l):∃ i,i<l.length/\l.getD i 0=v:=by
 obtain ⟨i,hi,e⟩:=List.mem_iff_getElem.1 h;exact ⟨i,hi,by rw [zW,zX hi];exact e⟩
theorem kJ (l:List Nat) (a b v:Nat) (ha:a<l.length) (hb:b<l.length):v∈dE l a b↔v∈l:=by
 constructor
 ·intro h;obtain ⟨i,hi,e⟩:=fk h;rw [cG l a b i ha hb] at e;rw [gM] at hi;rw [<- e];exact dm l _ (dp ha hb hi)
 ·intro h;obtain ⟨i,hi,e⟩:=fk h;have g:=dm (dE l a b) (aM a b i) (by rw [gM];exact dp ha hb hi);rw [cG l a b _ ha hb,eK,e] at g;exact g
theorem Bs (f:Nat->Rat) (l:List Nat) (a b:Nat) (ha:a<l.length) (hb:b<l.length):cB f (dE l a b)=cB f l:=by
 have g:=vS f (l.getD b 0) l a ha;have e:=vS f (l.getD a 0) (l.set a (l.getD b 0)) b (by simpa using hb);have j:(l.set a (l.getD b 0)).getD b 0=l.getD b 0:=by
  by_cases h:a=b
  ·subst h;rw [zW,List.getElem?_set];simp [ha]
  ·rw [zW,List.getElem?_set,if_neg h,<- zW]
 rw [j] at e;show cB f ((l.set a (l.getD b 0)).set b (l.getD a 0))=_
 apply canc (a:=f (l.getD b 0)+f (l.getD a 0))
 calc f (l.getD b 0)+f (l.getD a 0)+cB f ((l.set a (l.getD b 0)).set b (l.getD a 0))
   = (cB f ((l.set a (l.getD b 0)).set b (l.getD a 0))+f (l.getD b 0))+f (l.getD a 0):=by grind
  _=(cB f (l.set a (l.getD b 0))+f (l.getD a 0))+f (l.getD a 0):=by rw [e]
  _=(cB f l+f (l.getD b 0))+f (l.getD a 0):=by rw [g]
  _=f (l.getD b 0)+f (l.getD a 0)+cB f l:=by grind
theorem qh (f:Nat->Nat) (e:∀ r,1<=f r) (l:List Nat) (a b:Nat) (ha:a<l.length) (hb:b<l.length):aV f (dE l a b)=aV f l:=by
 have j:=rH f (l.getD b 0) l a ha;have g:=rH f (l.getD a 0) (l.set a (l.getD b 0)) b (by simpa using hb);have o:(l.set a (l.getD b 0)).getD b 0=l.getD b 0:=by
  by_cases h:a=b
  ·subst h;rw [zW,List.getElem?_set];simp [ha]
  ·rw [zW,List.getElem?_set,if_neg h,<- zW]
 rw [o] at g;show aV f ((l.set a (l.getD b 0)).set b (l.getD a 0))=_
 have p:0<f (l.getD b 0)*f (l.getD a 0):=Nat.mul_pos (e _) (e _);apply Nat.eq_of_mul_eq_mul_left p
 calc f (l.getD b 0)*f (l.getD a 0)*aV f ((l.set a (l.getD b 0)).set b (l.getD a 0))
   = (aV f ((l.set a (l.getD b 0)).set b (l.getD a 0))*f (l.getD b 0))*f (l.getD a 0):=by grind
  _=(aV f (l.set a (l.getD b 0))*f (l.getD a 0))*f (l.getD a 0):=by rw [g]
  _=(aV f l*f (l.getD b 0))*f (l.getD a 0):=by rw [j]
  _=f (l.getD b 0)*f (l.getD a 0)*aV f l:=by grind
theorem db (l:List Nat) (a b k:Nat) (ha:k<=a) (hb:k<=b):(dE l a b).take k=l.take k:=by
 unfold dE;rw [List.take_set_of_le O,List.take_set_of_le O]
theorem cM (l:List Nat) (k:Nat) (h:k<l.length):(l.take (k+1)).reverse=l.getD k 0 :: (l.take k).reverse:=by
 rw [List.take_add_one,zX h,zW,zX h];simp
def Left (W:Nat->Nat->Rat) (ρ γ:List Nat) (d:Rat) (i:Nat) (R:Nat->Rat):Prop :=
 ∃ S,fe W ρ S/\(∀ j,R j=d*W i j+S j)/\∀ c∈γ,R c=0
def DoneR (W:Nat->Nat->Rat) (ρ γ:List Nat) (c i:Nat) (R:Nat->Rat):Prop :=
 ∃ e S,e≠0/\fe W ρ S/\(∀ j,R j=e*W i j+S j)/\(∀ c∈γ,R c=0)/\R c≠0
structure St (W:Nat->Nat->Rat) (m done:Nat) (perm order:List Nat) (R:Nat->Nat->Rat) (d s:Rat):Prop where
 pl:perm.length=m
 pm:∀ r,r<m->r∈perm
 pb:∀ r∈perm,r<m
 pp:∀ c:Nat->Nat,(∀ r,1<=c r)->aV c perm=aV c (List.range m)
 ol:order.length=m
 om:∀ j,j<m->j∈order
 ob:∀ j∈order,j<m
 oi:∀ i k,i<m->k<m->order.getD i 0=order.getD k 0->i=k
 os:∀ f:Nat->Rat,cB f order=cB f (List.range m)
 le:done<=m
 ind:Ind W (perm.take done).reverse (order.take done).reverse
 dn:d≠0
 dd:d=s*cP W (order.take done).reverse (perm.take done).reverse
 sg:s=1∨s = -1
 todo:∀ i,done<=i->i<m->Left W (perm.take done).reverse (order.take done).reverse d (perm.getD i 0) (R i)
 fin:∀ t,t<done->DoneR W (perm.take t).reverse (order.take t).reverse (order.getD t 0) (perm.getD t 0) (R t)
theorem jC (m i:Nat) (h:i<m):(List.range m).getD i 0=i:=by
 rw [zW,List.getElem?_range h];rfl
theorem Eo (W:Nat->Nat->Rat) (m:Nat):St W m 0 (List.range m) (List.range m) W 1 1 where
 pl:=List.length_range
 pm:=fun r h=>List.mem_range.2 h
 pb:=fun r h=>List.mem_range.1 h
 pp:=fun _ _=>rfl
 ol:=List.length_range
 om:=fun r h=>List.mem_range.2 h
 ob:=fun r h=>List.mem_range.1 h
 oi:=fun i k hi g e=>by rw [jC m i hi,jC m k g] at e;exact e
 os:=fun _=>rfl
 le:=Nat.zero_le _
 ind:=by simpa using yH W
 dn:=Dy
 dd:=by simp only [List.take_zero,List.reverse_nil,cP];rw [iZ]
 sg:=.inl rfl
 todo:=fun i _ h=>⟨fun _=>0,rR W _,fun j=>by rw [jC m i h,iZ,cd],Z⟩
 fin:=fun t h=>O
theorem st_swap (h:St W m done perm order R d s)
  {a b:Nat} (hd:done<m) (ha:done<=a) (ha2:a<m) (hb:done<=b) (hb2:b<m) :
  St W m done (dE perm done a) (dE order done b) (fun i=>R (aM done a i)) d s:=by
 have o:done<perm.length:=by rw [h.pl];exact hd
 have p:a<perm.length:=by rw [h.pl];exact ha2
 have g:done<order.length:=by rw [h.ol];exact hd
 have j:b<order.length:=by rw [h.ol];exact hb2
 constructor
 ·rw [gM];exact h.pl
 ·intro r q;exact (kJ perm done a r o p).2 (h.pm r q)
 ·intro r q;exact h.pb r ((kJ perm done a r o p).1 q)
 ·intro c hc;rw [qh c hc perm done a o p];exact h.pp c hc
 ·rw [gM];exact h.ol
 ·intro r q;exact (kJ order done b r g j).2 (h.om r q)
 ·intro r q;exact h.ob r ((kJ order done b r g j).1 q)
 ·intro i k hi x e;rw [cG _ _ _ _ g j,cG _ _ _ _ g j] at e;have w:=h.oi _ _ (dp hd hb2 hi) (dp hd hb2 x) e;rw [<- eK done b i,w,eK]
 ·intro f;rw [Bs f order done b g j];exact h.os f
 ·exact h.le
 ·rw [db _ _ _ _ zL ha,db _ _ _ _ zL hb];exact h.ind
 ·exact h.dn
 ·rw [db _ _ _ _ zL ha,db _ _ _ _ zL hb];exact h.dd
 ·exact h.sg
 ·intro i hi u;rw [db _ _ _ _ zL ha,db _ _ _ _ zL hb,cG _ _ _ _ o p];exact h.todo _ (vT zL ha hi) (dp hd ha2 u)
 ·intro t v;rw [db _ _ _ _ O O,db _ _ _ _ O O,cG _ _ _ _ o p,cG _ _ _ _ g j,
   kI zL ha v,kI zL hb v]
  exact h.fin t v
theorem st_step {R':Nat->Nat->Rat} {u p:Rat} (h:St W m done perm order R d s)
  (hd:done<m) (hu:u=1∨u = -1) (hlow:∀ t,t<done->∀ j,R' t j=R t j)
  (hpiv:∀ j,R' done j=u*R done j) (hp:p=R' done (order.getD done 0)) (hn:p≠0)
  (hrest:∀ i,done<i->i<m->∀ j,R' i j=(p*R i j-R i (order.getD done 0)*R' done j) / d) :
  St W m (done+1) perm order R' p (u*s):=by
 obtain ⟨S,hS,E,F⟩:=h.todo done zL hd;have g:done<perm.length:=by rw [h.pl];exact hd
 have o:done<order.length:=by rw [h.ol];exact hd
 have C:u≠0:=by rcases hu with e | e<;>rw [e];exact Dy;exact Di Dy
 have D:R done (order.getD done 0)≠0:=by
  intro e;apply hn;rw [hp,hpiv,e,cY]
 have y:∀ j,R' done j=u*d*W (perm.getD done 0) j+u*S j:=by
  intro j;rw [hpiv,E,lQ,mulA]
 have z:fe W (perm.take done).reverse (fun j=>u*S j):=ia W u hS;have A:∀ c∈(order.take done).reverse,R' done c=0:=by
  intro c hc;rw [hpiv,F c hc,cY]
 constructor
 ·exact h.pl
 ·exact h.pm
 ·exact h.pb
 ·exact h.pp
 ·exact h.ol
 ·exact h.om
 ·exact h.ob
 ·exact h.oi
 ·exact h.os
 ·exact hd
 ·rw [cM _ _ g,cM _ _ o];exact uu W h.ind h.dn E hS F D
 ·exact hn
 ·rw [cM _ _ g,cM _ _ o,hp,hpiv,th W h.ind h.dd E hS F (order.getD done 0),mulA]
 ·rcases hu with e | e<;>rcases h.sg with B | B <;> rw [e,B]
  ·left;exact iZ 1
  ·right;exact iZ _
  ·right;exact sb _
  ·left;rw [nN,iZ,jz]
 ·intro i hi q;rw [cM _ _ g,cM _ _ o];obtain ⟨I,v,w,x⟩:=h.todo i O q;obtain ⟨T,J,K⟩:=Ed W (p:=p) (i:=perm.getD done 0) (i':=perm.getD i 0) (R i (order.getD done 0)) h.dn y z w v;refine ⟨T,J,fun j=>?_,fun c hc=>?_⟩
  ·rw [hrest i hi q j,K j]
  ·rw [hrest i hi q c];rcases List.mem_cons.1 hc with e | e
   ·subst e;rw [<- hp,l8 p,subE,oF,wD h.dn]
   ·rw [x c e,A c e,cY,cY,subE,ix,cd,wD h.dn]
 ·intro t L;by_cases e:t=done
  ·subst e;exact ⟨u*d,_,gT C h.dn,z,y,A,by rw [<- hp];exact hn⟩
  ·obtain ⟨B,I,G,v,w,x,H⟩:=h.fin t O;refine ⟨B,I,G,v,fun j=>?_,fun c hc=>?_,?_⟩
   ·rw [hlow t O j];exact w j
   ·rw [hlow t O c];exact x c hc
   ·rw [hlow t O];exact H
def nM (W:Nat->Nat->Rat) (m:Nat) (x:Nat->Rat):Prop:=x m = -1/\∀ r,r<m->cX (m+1) x (W r)=0
theorem tr (h:St W m done perm order R d s) (x:Nat->Rat) :
  (∀ r,r<m->cX (m+1) x (W r)=0)↔∀ i,i<m->cX (m+1) x (R i)=0:=by
 have p:∀ t,t<m->perm.getD t 0<m:=fun t ht=>h.pb _ (dm perm t (by rw [h.pl];exact ht))
 have g:∀ k,∀ r∈(perm.take k).reverse,∃ t,t<k/\t<m/\perm.getD t 0=r:=by
  intro k r j;rw [List.mem_reverse] at j;obtain ⟨i,hi,e⟩:=fk j;rw [List.length_take] at hi;refine ⟨i,O,by rw [<- h.pl];omega,?_⟩;rw [<- e,zW,zW,List.getElem?_take,if_pos O]
 constructor
 ·intro y i hi;have u:∀ k (S:Nat->Rat),fe W (perm.take k).reverse S->cX (m+1) x S=0:=fun k S hS =>
   mw W (m+1) x _ S hS (fun r j=>by obtain ⟨t,_,ht,e⟩:=g k r j;rw [<- e];exact y _ (p t ht))
  by_cases hd:i<done
  ·obtain ⟨e,S,_,hS,hR,_⟩:=h.fin i hd;rw [funext hR,lR,y _ (p i hi),u i S hS,cY,cd]
  ·obtain ⟨S,hS,hR,_⟩:=h.todo i O hi;rw [funext hR,lR,y _ (p i hi),u done S hS,cY,cd]
 ·intro hR;have o:∀ t,t<done->cX (m+1) x (W (perm.getD t 0))=0:=by
   intro t;induction t using Nat.strongRecOn with
   | _ t ih =>
    intro ht;obtain ⟨e,S,B,hS,z,_⟩:=h.fin t ht;have v:=hR t (by have:=h.le;omega);rw [funext z,lR,mw W (m+1) x _ S hS (fun r j=>by
     obtain ⟨q,A,_,e⟩:=g t r j;rw [<- e];exact ih q A O),cd] at v
    exact iC B v
  have w:∀ t,t<m->cX (m+1) x (W (perm.getD t 0))=0:=by
   intro t ht;by_cases hd:t<done
   ·exact o t hd
   ·obtain ⟨S,hS,z,_⟩:=h.todo t O ht;have v:=hR t ht;rw [funext z,lR,mw W (m+1) x _ S hS (fun r j=>by
     obtain ⟨q,A,_,e⟩:=g done r j;rw [<- e];exact o q A),cd] at v
    exact iC h.dn v
  intro r j;obtain ⟨i,hi,e⟩:=fk (h.pm r j);rw [<- e];exact w i (by rw [<- h.pl];exact hi)
open Nums
theorem vD (g:tI Wh) (j:s=1∨s = -1) {b:Nat} {x:Rat} (h:Wh b x):Wh b (s*x):=by
 rcases j with e | e<;>rw [e]
 ·rw [iZ];exact h
 ·rw [nN,iZ];exact g.neg _ _ h
def dM (m:Nat) (b:Nat->Nat):Nat:=aV (fun r=>m*b r) (List.range m)
theorem rF (c:Nat->Nat) (hc:∀ r,1<=c r) {v:Nat} : ∀ l:List Nat,v∈l->c v<=aV c l:=by
 intro l;induction l with
 | nil=>intro h;simp at h
 | cons a l ih =>
  intro h;simp only [aV];rcases List.mem_cons.1 h with e | e
  ·rw [e];exact Nat.le_mul_of_pos_right _ (kC c hc l)
  ·exact Nat.le_trans (ih e) (Nat.le_mul_of_pos_left _ (hc a))
theorem kD (c:Nat->Nat):∀ l:List Nat,aV c l.reverse=aV c l:=by
 intro l;induction l with
 | nil=>rfl
 | cons a l ih=>rw [List.reverse_cons,jd,ih];simp only [aV];rw [Nat.mul_one,Nat.mul_comm]
theorem pI (c:Nat->Nat) (hc:∀ r,1<=c r) (l:List Nat) (k:Nat):aV c (l.take k)<=aV c l:=by
 conv=>rhs;rw [<- List.take_append_drop k l]
 rw [jd];exact Nat.le_mul_of_pos_right _ (kC c hc _)
theorem rG (c:Nat->Nat) (hc:∀ r,1<=c r) (l:List Nat) (k i:Nat) (hi:k<=i) (e:i<l.length):aV c (l.getD i 0 :: (l.take k).reverse)<=aV c l:=by
 conv=>rhs;rw [<- List.take_append_drop k l]
 rw [jd];simp only [aV];rw [kD,Nat.mul_comm];apply Nat.mul_le_mul zL;apply rF c hc;have:=dm (l.drop k) (i-k) (by rw [List.length_drop];omega);rw [zW,List.getElem?_drop,<- zW] at this;rw [show k+(i-k)=i by omega] at this;exact this
theorem st_wh (e:tI Wh) {b:Nat->Nat}
  (h:St W m done perm order R d s) (hb:∀ r,1<=b r) (hB:∀ r j,Wh (b r) (W r j)) (i:Nat) (hi:done<=i) (hi2:i<m) (j:Nat):Wh (dM m b) (R i j):=by
 obtain ⟨S,hS,o,p⟩:=h.todo i hi hi2;rw [th W h.ind h.dd o hS p j];apply vD e h.sg;have hc:∀ r,1<=m*b r:=fun r=>Nat.mul_pos O (hb r)
 have g:(perm.getD i 0 :: (perm.take done).reverse).length<=m:=by
  simp only [List.length_cons,List.length_reverse,List.length_take];omega
 have:=o9 e W b hb hB m O (j :: (order.take done).reverse) _ g;refine e.mono _ _ _ ?_ this;unfold dM;rw [<- h.pp _ hc];exact rG _ hc perm done i hi (by rw [h.pl];exact hi2)
theorem st_wh_d (e:tI Wh) {b:Nat->Nat}
  (h:St W m done perm order R d s) (hm:0<m) (hb:∀ r,1<=b r) (hB:∀ r j,Wh (b r) (W r j)):Wh (dM m b) d:=by
 rw [h.dd];apply vD e h.sg;have hc:∀ r,1<=m*b r:=fun r=>Nat.mul_pos hm (hb r)
 have g:(perm.take done).reverse.length<=m:=by
  simp only [List.length_reverse,List.length_take];have:=h.le;omega
 have:=o9 e W b hb hB m hm (order.take done).reverse _ g;refine e.mono _ _ _ ?_ this;unfold dM;rw [<- h.pp _ hc,kD];exact pI _ hc perm done
theorem qB {v:Nat} (h:v∈l.take k):∃ t,t<k/\t<l.length/\l.getD t 0=v:=by
 obtain ⟨i,hi,e⟩:=fk h;rw [List.length_take] at hi;refine ⟨i,O,O,?_⟩;rw [<- e,zW,zW,List.getElem?_take,if_pos O]
theorem iH {t:Nat} (h:t<k) (e:t<l.length):l.getD t 0∈l.take k:=by
 have:=dm (l.take k) t (by rw [List.length_take];omega);rw [zW,List.getElem?_take,if_pos h,<- zW] at this;exact this
theorem qg (f:Nat->Rat):∀ (l:List Nat) (t:Nat),t<l.length->cB f l=cB f (l.take t)+(f (l.getD t 0)+cB f (l.drop (t+1))):=by
 intro l;induction l with
 | nil=>intro t h;simp at h
 | cons a l ih =>
  intro t h;cases t with
  | zero=>simp only [List.take_zero,List.getD_cons_zero,cB,List.drop_succ_cons,List.drop_zero];rw [kU]
  | succ t =>
   simp only [List.take_succ_cons,List.getD_cons_succ,cB,List.drop_succ_cons];rw [ih t (by simpa using h),tJ]
def upd (x:Nat->Rat) (c:Nat) (v:Rat):Nat->Rat:=fun j=>if j=c then v else x j
theorem dot_upd (x R:Nat->Rat) (c:Nat) (v:Rat):∀ n,c<n->cX n (upd x c v) R=cX n x R+R c*(v + -(x c)):=by
 intro n;induction n with
 | zero=>intro h;omega
 | succ n ih =>
  intro h;simp only [cX];by_cases e:c=n
  ·subst e;have o:cX c (upd x c v) R=cX c x R:=Ap _ _ _ _ c (fun j p=>by simp only [upd];rw [if_neg O]);have g:upd x c v c=v:=by simp [upd]
   rw [o,g,lQ,oJ]
   calc cX c x R+R c*v=cX c x R+(R c*x c + -(R c*x c))+R c*v:=by rw [oF,cd]
    _=cX c x R+R c*x c+(R c*v + -(R c*x c)):=by grind
  ·have g:upd x c v n=x n:=by simp only [upd];rw [if_neg O]
   rw [ih O,g];grind
theorem zt (h:St W m done perm order R d s) (g:Nat->Rat) :
  ∃ x:Nat->Rat,(∀ j,j∉order.take done->x j=g j)/\∀ t,t<done->cX (m+1) x (R t)=0:=by
 have o:∀ k,k<=done->∃ x:Nat->Rat,(∀ j,j∉order.take done->x j=g j)/\∀ t,done-k<=t->t<done->cX (m+1) x (R t)=0:=by
  intro k;induction k with
  | zero=>intro _;exact ⟨g,fun _ _=>rfl,fun t D v=>O⟩
  | succ k ih =>
   intro F;obtain ⟨x,q,u⟩:=ih O;have w:done-(k+1)<done:=O
   have E:=h.le;obtain ⟨e,S,_,_,_,_,hn⟩:=h.fin (done-(k+1)) w;have z:=h.ol;have hc:order.getD (done-(k+1)) 0<m:=h.ob _ (dm order _ O);refine ⟨upd x (order.getD (done-(k+1)) 0) (x (order.getD (done-(k+1)) 0) + -(cX (m+1) x (R (done-(k+1))) / R (done-(k+1)) (order.getD (done-(k+1)) 0))),fun j y=>?_,fun t D v=>?_⟩
   ·have:j≠order.getD (done-(k+1)) 0:=by
     intro e;apply y;rw [e];exact iH w O
    simp only [upd];rw [if_neg this];exact q j y
   ·rw [dot_upd _ _ _ _ (m+1) O];by_cases p:t=done-(k+1)
    ·subst p;have A:x (order.getD (done-(k+1)) 0) + -(cX (m+1) x (R (done-(k+1))) / R (done-(k+1)) (order.getD (done-(k+1)) 0)) + -(x (order.getD (done-(k+1)) 0))
       = -(cX (m+1) x (R (done-(k+1))) / R (done-(k+1)) (order.getD (done-(k+1)) 0)):=by
      calc x (order.getD (done-(k+1)) 0) + -(cX (m+1) x (R (done-(k+1))) / R (done-(k+1)) (order.getD (done-(k+1)) 0)) + -(x (order.getD (done-(k+1)) 0))
        = -(cX (m+1) x (R (done-(k+1))) / R (done-(k+1)) (order.getD (done-(k+1)) 0))+(x (order.getD (done-(k+1)) 0) + -(x (order.getD (done-(k+1)) 0))):=by grind
       _=_:=by rw [oF,cd]
     rw [A,oJ,l8,Am _ _ hn,oF]
    ·obtain ⟨_,_,_,_,_,C,_⟩:=h.fin t v;have B:=C (order.getD (done-(k+1)) 0) (by rw [List.mem_reverse];exact iH O O);rw [B,iB,cd];exact u t O v
 obtain ⟨x,q,u⟩:=o done zL;exact ⟨x,q,fun t p=>u t O p⟩
theorem vM (h:St W m done perm order R d s)
  (hz:∀ i,done<=i->i<m->∀ k,done<=k->k<m->R i (order.getD k 0)=0) (i:Nat) (hi:done<=i) (hi2:i<m) (j:Nat) (hj:j<m):R i j=0:=by
 obtain ⟨k,g,e⟩:=fk (h.om j hj);rw [h.ol] at g;rw [<- e];by_cases hd:k<done
 ·obtain ⟨S,_,_,o⟩:=h.todo i hi hi2;exact o _ (by rw [List.mem_reverse];exact iH hd (by rw [h.ol];exact g))
 ·exact hz i hi hi2 k O g
theorem st_none (h:St W m done perm order R d s)
  (hz:∀ i,done<=i->i<m->∀ k,done<=k->k<m->R i (order.getD k 0)=0) {i:Nat} (hi:done<=i) (hi2:i<m) (hn:R i m≠0):¬ ∃ x,nM W m x:=by
 rintro ⟨x,g,o⟩;have e:=(tr h x).1 o i hi2;simp only [cX] at e;rw [lS x (R i) m (fun j p=>by rw [vM h hz i hi hi2 j p,iB]),kU,g,oJ,sb] at e;exact Di hn e
theorem st_many (h:St W m done perm order R d s) (hd:done<m)
  (hz:∀ i,done<=i->i<m->∀ k,done<=k->k<m->R i (order.getD k 0)=0) (hn:∀ i,done<=i->i<m->R i m=0) :
  ∃ x y:Nat->Rat,nM W m x/\nM W m y/\∃ j,j<m/\x j≠y j:=by
 have w:=h.ol;have g:∀ v:Rat,∃ x:Nat->Rat,nM W m x/\x (order.getD done 0)=v:=by
  intro v;obtain ⟨x,p,A⟩:=zt h (fun j=>if j=m then -1 else v);have o:m∉order.take done:=fun o=>by
   have:=h.ob m (List.mem_of_mem_take o);omega
  have z:order.getD done 0∉order.take done:=fun o=>by
   obtain ⟨t,E,B,e⟩:=qB o;have:=h.oi t done O hd e;omega
  have hlt:order.getD done 0<m:=h.ob _ (dm order _ O);refine ⟨x,⟨?_,(tr h x).2 (fun i hi=>?_)⟩,?_⟩
  ·rw [p m o,if_pos rfl]
  ·by_cases q:i<done
   ·exact A i q
   ·apply lS;intro j D;by_cases u:j=m
    ·rw [u,hn i O hi,iB]
    ·rw [vM h hz i O hi j O,iB]
  ·rw [p _ z,if_neg O]
 obtain ⟨x,p,ex⟩:=g 0;obtain ⟨y,hy,C⟩:=g 1;refine ⟨x,y,p,hy,order.getD done 0,h.ob _ (dm order _ O),?_⟩;rw [ex,C];exact fun e=>Dy e.symm
theorem rm {u v:Nat->Rat} : ∀ (l:List Nat) (f:List Nat->Rat),(∀ r∈l,u r=v r)->gC u f l=gC v f l:=by
 intro l;induction l with
 | nil=>intro _ _;rfl
 | cons a l ih =>
  intro f h;simp only [gC];rw [h a (List.mem_cons_self ..),ih _ (fun r e=>h r (List.mem_cons_of_mem _ e))]
theorem CU (a:Rat) (u v:Nat->Rat):∀ (l:List Nat) (f:List Nat->Rat),gC (fun r=>a*u r+v r) f l=a*gC u f l+gC v f l:=by
 intro l;induction l with
 | nil=>intro f;simp only [gC];rw [cY,cd]
 | cons r l ih =>
  intro f;simp only [gC];rw [ih];simp only [lQ,qT,xG,oJ];grind
theorem rp:∀ (l:List Nat) (f:List Nat->Rat),gC (fun _=>(0:Rat)) f l=0:=by
 intro l;induction l with
 | nil=>intro f;rfl
 | cons r l ih=>intro f;simp only [gC];rw [ih,iB,ix,cd]
theorem yx (W:Nat->Nat->Rat) (x:Nat->Rat) (γ l:List Nat):∀ o:List Nat,
  gC (fun r=>cB (fun j=>W r j*x j) o) (cP W γ) l=cB (fun j=>x j*cP W (j :: γ) l) o:=by
 intro o;induction o with
 | nil=>exact rp l _
 | cons a o ih =>
  simp only [cB];rw [<- ih];show _=x a*gC (fun r=>W r a) (cP W γ) l+_
  rw [<- CU];congr 1
  funext r
  rw [l8]
theorem Bn (o:tI Wh) {b:Nat->Nat}
  (h:St W m m perm order R d s) (hb:∀ r,1<=b r) (hB:∀ r j,Wh (b r) (W r j)) {y:Nat->Rat} (hy:nM W m y) (t:Nat) (ht:t<m) :
  Wh (dM m b) (d*y (order.getD t 0)):=by
 have z:=h.ol;have A:=h.pl;have B:order.take m=order:=zT O;have C:perm.take m=perm:=zT O;have p:=h.dd;rw [B,C] at p;have q:∀ r∈perm.reverse,W r m=cB (fun j=>W r j*y j) order:=by
  intro r x;rw [List.mem_reverse] at x;have v:=hy.2 r (h.pb r x);simp only [cX] at v;rw [hy.1,oJ,sb] at v;rw [h.os,jG];exact (kx v).symm
 have g:order.reverse=(order.drop (t+1)).reverse++order.getD t 0 :: (order.take t).reverse:=by
  have e:order=order.take t++order.getD t 0 :: order.drop (t+1):=by
   rw [zW,zX O];simp
  conv=>lhs;rw [e]
  simp
 have D:cP W (m :: ((order.drop (t+1)).reverse++(order.take t).reverse)) perm.reverse
   = y (order.getD t 0)*cP W (order.getD t 0 :: ((order.drop (t+1)).reverse++(order.take t).reverse)) perm.reverse:=by
  show gC (fun r=>W r m) _ _=_
  rw [rm perm.reverse _ q,yx,qg _ order t O];rw [mZ _ (order.take t) (fun j w=>by rw [nX W j _ (by simp [w]),cY]),
   mZ _ (order.drop (t+1)) (fun j w=>by rw [nX W j _ (by simp [w]),cY]),cd,kU]
 have u:Wh (dM m b) (cP W (m :: ((order.drop (t+1)).reverse++(order.take t).reverse)) perm.reverse):=by
  have hc:∀ r,1<=m*b r:=fun r=>Nat.mul_pos O (hb r)
  have:=o9 o W b hb hB m O (m :: ((order.drop (t+1)).reverse++(order.take t).reverse)) perm.reverse (by rw [List.length_reverse];omega);refine o.mono _ _ _ ?_ this;unfold dM;rw [<- h.pp _ hc,kD];exact zL
 have E:d*y (order.getD t 0)=s*cP W (m :: ((order.drop (t+1)).reverse++(order.take t).reverse)) perm.reverse
   ∨ d*y (order.getD t 0) = -(s*cP W (m :: ((order.drop (t+1)).reverse++(order.take t).reverse)) perm.reverse):=by
  rw [D,p,g];rcases qP W (order.getD t 0) (order.take t).reverse (order.drop (t+1)).reverse perm.reverse with e | e
  ·left;rw [e];grind
  ·right;rw [e,oJ,nN];congr 1;grind
 rcases E with e | e<;>rw [e]
 ·exact vD o h.sg u
 ·exact o.neg _ _ (vD o h.sg u)
theorem st_full (F:tI Wh) {b:Nat->Nat}
  (h:St W m m perm order R d s) (hb:∀ r,1<=b r) (hB:∀ r j,Wh (b r) (W r j)) :
  ∃ y:Nat->Rat,nM W m y/\(∀ z,nM W m z->∀ j,j<m->z j=y j)/\(∀ t,t<m->Wh (dM m b) (d*y (order.getD t 0)))
   /\ ∀ t,t<m->R t (order.getD t 0)≠0/\d*R t m-cB (fun v=>R t v*(d*y v)) (order.drop (t+1))=d*y (order.getD t 0)*R t (order.getD t 0):=by
 have G:=h.ol;obtain ⟨y,hy,K⟩:=zt h (fun _=>-1);have A:m∉order.take m:=fun A=>by
  have:=h.ob m (List.mem_of_mem_take A);omega
 have hS:nM W m y:=⟨hy m A,(tr h y).2 (fun i hi=>K i hi)⟩;have g:∀ z,nM W m z->∀ t,t<m->R t m=R t (order.getD t 0)*z (order.getD t 0)+cB (fun v=>R t v*z v) (order.drop (t+1)):=by
  intro z x t o;have u:=(tr h z).1 x.2 t o;simp only [cX] at u;rw [x.1,oJ,sb,<- jG,<- h.os,qg _ order t O] at u;obtain ⟨_,_,_,_,_,L,_⟩:=h.fin t o;rw [mZ _ (order.take t) (fun j hj=>by rw [L j (by rw [List.mem_reverse];exact hj),iB]),kU] at u;exact (kx u).symm
 have p:∀ t,t<m->R t (order.getD t 0)≠0:=fun t o=>by
  obtain ⟨_,_,_,_,_,_,hn⟩:=h.fin t o;exact hn
 refine ⟨y,hS,?_,fun t o=>Bn F h hb hB hS t o,fun t o=>⟨p t o,?_⟩⟩
 ·intro z x;have B:∀ k,k<=m->∀ t,m-k<=t->t<m->z (order.getD t 0)=y (order.getD t 0):=by
   intro k;induction k with
   | zero=>intro _ t u w;omega
   | succ k ih =>
    intro N t u w;by_cases e:m-k<=t
    ·exact ih O t e w
    ·have H:=g z x t w;have C:=g y hS t w;have D:cB (fun v=>R t v*z v) (order.drop (t+1))=cB (fun v=>R t v*y v) (order.drop (t+1)):=by
      apply qe;intro j hj;obtain ⟨q,M,E⟩:=fk hj;rw [List.length_drop] at M;rw [zW,List.getElem?_drop,<- zW] at E;rw [<- E,ih O (t+1+q) O O]
     rw [H,D,wN] at C;rw [wN (R t (order.getD t 0)*y _)] at C;have I:=canc C;have J:R t (order.getD t 0)*(z (order.getD t 0) + -(y (order.getD t 0)))=0:=by
      rw [lQ,oJ,I,oF]
     exact kx (iC (p t w) J)
  intro j hj;obtain ⟨t,o,e⟩:=fk (h.om j hj);rw [<- e];exact B m zL t O O
 ·have e:=g y hS t o;have D:cB (fun v=>R t v*(d*y v)) (order.drop (t+1))=d*cB (fun v=>R t v*y v) (order.drop (t+1)):=by
   rw [<- Es];apply qe;intro j _;grind
  rw [D,e,subE,lQ,tJ,oF,cd];grind
def gF (b:Nat) (q:Rat):Prop:=q.den=1/\rN q<=b
theorem oD {q:Rat} (h:q.den=1):q=((q.num:Int):Rat):=by
 apply Rat.ext
 ·rfl
 ·rw [h];rfl
theorem EK (z:Int) (b:Nat) (h:z.natAbs<=b):gF b ((z:Int):Rat):=⟨rfl,h⟩
theorem bI:tI gF where
 zero:=fun b=>⟨rfl,Nat.zero_le _⟩
 one:=fun b h=>⟨rfl,h⟩
 add:=by
  rintro b c x y ⟨h1,h2⟩ ⟨h3,h4⟩;rw [oD h1,oD h3];have e:((x.num:Int):Rat)+((y.num:Int):Rat)=((x.num+y.num:Int):Rat):=(Rat.intCast_add _ _).symm;show gF _ (((x.num:Int):Rat)+((y.num:Int):Rat))
  rw [e];refine EK _ _ ?_;unfold rN at h2 h4;omega
 mul:=by
  rintro b c x y ⟨h1,h2⟩ ⟨h3,h4⟩;rw [oD h1,oD h3];have e:((x.num:Int):Rat)*((y.num:Int):Rat)=((x.num*y.num:Int):Rat):=(Rat.intCast_mul _ _).symm;show gF _ (((x.num:Int):Rat)*((y.num:Int):Rat))
  rw [e];refine EK _ _ ?_;rw [Int.natAbs_mul];exact Nat.mul_le_mul h2 h4
 neg:=by
  rintro b x ⟨h1,h2⟩;refine ⟨h1,?_⟩;unfold rN;show (-x).num.natAbs<=b
  rw [Rat.neg_num,Int.natAbs_neg];exact h2
 mono:=fun b c x h h1=>⟨h1.1,Nat.le_trans h1.2 h⟩
def iR (R:Nat->Rat):Nat->Nat
 | 0=>1
 | i+1=>iR R i*(R i*(iR R i:Nat)).den
def cj (R:Nat->Rat) (i:Nat):Nat->Rat:=fun j=>R j*(iR R i:Nat)
theorem wR (R:Nat->Rat) (j:Nat):cj R 0 j=R j:=by
 unfold cj iR;show R j*((1:Nat):Rat)=R j
 rw [show ((1:Nat):Rat)=1 from rfl,Rat.mul_one]
theorem jj (R:Nat->Rat) (i j:Nat):cj R (i+1) j=cj R i j*(((cj R i i).den:Nat):Rat):=by
 unfold cj;show R j*((iR R i*(R i*(iR R i:Nat)).den:Nat):Rat)=_
 rw [Rat.natCast_mul,Rat.mul_assoc]
theorem oQ (R:Nat->Rat):∀ i,0<iR R i:=by
 intro i;induction i with
 | zero=>exact Nat.one_pos
 | succ i ih=>exact Nat.mul_pos ih (Rat.den_pos _)
theorem nm (x:Rat) (k:Nat):(x*(k:Nat)).den∣x.den:=by
 have e:x*((k:Nat):Rat)=mkRat (x.num*(k:Nat)) x.den:=by
  rw [Rat.mul_def',Rat.num_natCast,Rat.den_natCast,Nat.mul_one]
 rw [e,Rat.den_mkRat,if_neg x.den_nz];exact Nat.div_dvd_of_dvd (Nat.gcd_dvd_left _ _)
theorem tY {x:Rat} (k:Nat) (h:x.den=1):(x*(k:Nat)).den=1:=by
 have:=nm x k;rw [h] at this;exact Nat.dvd_one.1 this
theorem uM (x:Rat):(x*((x.den:Nat):Rat)).den=1:=by
 have e:x*((x.den:Nat):Rat)=mkRat (x.num*(x.den:Nat)) x.den:=by
  rw [Rat.mul_def',Rat.num_natCast,Rat.den_natCast,Nat.mul_one]
 rw [e,Rat.den_mkRat,if_neg x.den_nz];have hg:Nat.gcd x.den (x.num*(x.den:Nat)).natAbs=x.den:=by
  rw [Int.natAbs_mul,Int.natAbs_natCast];exact Nat.gcd_eq_left (Nat.dvd_mul_left _ _)
 first | (rw [hg];exact Nat.div_self x.den_pos) | (rw [Nat.gcd_comm,hg];exact Nat.div_self x.den_pos)
theorem nh (R:Nat->Rat):∀ i j,j<i->(cj R i j).den=1:=by
 intro i;induction i with
 | zero=>intro j h;omega
 | succ i ih =>
  intro j g;rw [jj];by_cases e:j=i
  ·rw [e];exact uM _
  ·exact tY _ (ih j O)
theorem Aa (R:Nat->Rat) (i j:Nat):(cj R i j).den∣(R j).den:=nm _ _
open Go.Lib
def sZ:Nat->Nat->List UInt8
 | 0,_=>[]
 | k+1,c=>sZ k (c / 10)++[UInt8.ofNat (48+c % 10)]
theorem oZ {u:Nat} (h:¬ u<10):decDigits u=decDigits (u / 10)++[UInt8.ofNat (48+u % 10)]:=by rw [decDigits,dif_neg h]
theorem dec_pad (k q c:Nat) (e:0<q) (hc:c<10^k):decDigits (q*10^k+c)=decDigits q++sZ k c:=by
 induction k generalizing c with
 | zero =>
  have:c=0:=by simpa using hc
  subst this;simp [sZ]
 | succ k ih =>
  have h:0<10^k:=Nat.pow_pos zD;have j:10^k<=q*10^k:=Nat.le_mul_of_pos_left _ e;rw [Nat.pow_succ] at hc ⊢;have hd:(q*(10^k*10)+c) / 10=q*10^k+c / 10:=by
   rw [<- Nat.mul_assoc];omega
  have g:(q*(10^k*10)+c) % 10=c % 10:=by
   rw [<- Nat.mul_assoc];omega
  rw [oZ (by rw [<- Nat.mul_assoc];omega),hd,g,ih (c / 10) O,sZ,List.append_assoc]
theorem A0 (k:Nat):sZ k 0=List.replicate k 48:=by
 induction k with
 | zero=>rfl
 | succ k ih =>
  rw [sZ,show (0:Nat) / 10=0 from rfl,ih,List.replicate_succ'];rfl
theorem padD_eq (k c:Nat) (j:0<k) (hc:c<10^k):sZ k c=List.replicate (k-(decDigits c).length) 48++decDigits c:=by
 induction k generalizing c with
 | zero=>omega
 | succ k ih =>
  rw [Nat.pow_succ] at hc;by_cases h:c<10
  ·rw [sZ,show c / 10=0 by omega,A0,decDigits_one h,List.length_singleton,show k+1-1=k by omega,Nat.mod_eq_of_lt h]
  ·have e:0<k:=by
    rcases zP k with g | g
    ·subst g;simp at hc;omega
    ·exact g
   rw [sZ,ih (c / 10) e O,oZ h,List.length_append,List.length_singleton,List.append_assoc,show k+1-((decDigits (c / 10)).length+1)=k-(decDigits (c / 10)).length by omega]
theorem lB (j:0<k) (hc:c<10^k):nDigits c<=k:=by
 induction k generalizing c with
 | zero=>omega
 | succ k ih =>
  rw [Nat.pow_succ] at hc;by_cases h:c<10
  ·rw [nDigits_small h];omega
  ·rw [nDigits_big h];have e:0<k:=by
    rcases zP k with g | g
    ·subst g;simp at hc;omega
    ·exact g
   have:=ih e (show c / 10<10^k by omega);omega
theorem oW (e:0<k) (hc:c<10^k):(decDigits c).length<=k:=by
 rw [decDigits_length];exact lB e hc
def dK (B:Nat):List Nat->Nat
 | []=>0
 | c :: r=>c+B*dK B r
theorem jZ (B:Nat) (l:List Nat) (c:Nat):dK B (l++[c])=dK B l+B^l.length*c:=by
 induction l with
 | nil=>simp [dK]
 | cons x r ih =>
  simp only [List.cons_append,dK,ih,List.length_cons,Nat.pow_succ];rw [Nat.mul_add,<- Nat.mul_assoc,Nat.mul_comm B (B^r.length)];omega
def lh (l:List Nat) (i:Nat):List UInt8:=decDigits (dK 1000000000 (l.drop i))
theorem nk (l:List Nat) (i:Nat) (hi:i+1<l.length) (hc:l[i]'O<1000000000) (e:0<dK 1000000000 (l.drop (i+1))) :
  lh l i=lh l (i+1)++(List.replicate (9-(decDigits (l[i]'O)).length) 48++decDigits (l[i]'O)):=by
 unfold lh;rw [List.drop_eq_getElem_cons (by omega:i<l.length),dK,<- padD_eq 9 _ zD hc,Nat.add_comm,Nat.mul_comm];exact dec_pad 9 _ _ e hc
theorem nj (l:List Nat) (i:Nat) (hi:i+1=l.length):lh l i=decDigits (l[i]'O):=by
 unfold lh;rw [List.drop_eq_getElem_cons (by omega:i<l.length),List.drop_of_length_le O];simp [dK]
namespace Rk
def sm (f:Nat->Rat):Nat->Rat
 | 0=>0
 | n+1=>sm f n+f n
theorem mu {g:Nat->Rat} : ∀ n,(∀ k,k<n->f k=g k)->sm f n=sm g n
 | 0,_=>rfl
 | n+1,h=>by rw [sm,sm,mu n fun k e=>h k O,h n O]
theorem oy : ∀ n,(∀ k,k<n->f k=0)->sm f n=0
 | 0,_=>rfl
 | n+1,h=>by rw [sm,oy n fun k hk=>h k O,h n O];grind
theorem yb (f g:Nat->Rat) (a:Rat):∀ n,sm (fun k=>f k-a*g k) n=sm f n-a*sm g n
 | 0=>by
  show (0:Rat)=0-a*0
  grind
 | n+1=>by
  rw [sm,sm,sm,yb f g a n];grind
theorem xZ (q:Nat):∀ n,q<n->(∀ k,k<n->k≠q->f k=0)->sm f n=f q
 | 0,h,_=>absurd h (Nat.not_lt_zero _)
 | n+1,h,hz=>by
  rw [sm];by_cases e:q=n
  ·subst e;rw [oy q fun k j=>hz k O O];grind
  ·rw [xZ q n O fun k j g=>hz k O g,hz n O O];grind
def tH (n:Nat) (m:Nat->Nat->Rat) (y:Nat->Rat):Prop:=∀ i,i<n->sm (fun k=>m i k*y k) n=m i n
def dI (m:Nat->Nat->Rat) (r p:Nat):Nat->Nat->Rat:=fun i=>if i=r then m p else if i=p then m r else m i
def dD (m:Nat->Nat->Rat) (r:Nat) (f:Nat->Rat):Nat->Nat->Rat:=fun i k=>if i=r then m i k else m i k-f i*m r k
theorem ans_swp {p:Nat} (j:r<n) (o:p<n) (m:Nat->Nat->Rat) (y:Nat->Rat):tH n (dI m r p) y↔tH n m y:=by
 constructor
 ·intro h i hi;by_cases e:i=p
  ·have:=h r j;unfold dI at this;rw [if_pos rfl] at this;rw [e];exact this
  ·by_cases g:i=r
   ·have:=h p o;unfold dI at this;by_cases q:p=r
    ·exact absurd (g.trans q.symm) e
    ·rw [if_neg q,if_pos rfl] at this;rw [g];exact this
   ·have:=h i hi;unfold dI at this;rw [if_neg g,if_neg e] at this;exact this
 ·intro h i hi;unfold dI;split
  ·exact h p o
  ·split
   ·exact h r j
   ·exact h i hi
theorem BT (o:r<n) (m:Nat->Nat->Rat) (f:Nat->Rat) (y:Nat->Rat):tH n (dD m r f) y↔tH n m y:=by
 have g:∀ i,i≠r->sm (fun k=>dD m r f i k*y k) n=sm (fun k=>m i k*y k) n-f i*sm (fun k=>m r k*y k) n:=fun i hi=>by
  rw [<- yb];refine mu n fun k _=>?_
  unfold dD;rw [if_neg hi];grind
 have own:∀ k,dD m r f r k=m r k:=fun k=>by unfold dD;rw [if_pos rfl]
 constructor
 ·intro h;have j:sm (fun k=>m r k*y k) n=m r n:=by
   have:=h r o;rw [own n,mu n fun k _=>by rw [own k]] at this;exact this
  intro i hi;by_cases e:i=r
  ·rw [e];exact j
  ·have:=h i hi;rw [g i e,j] at this;have p:dD m r f i n=m i n-f i*m r n:=by unfold dD;rw [if_neg e]
   rw [p] at this;grind
 ·intro h i hi;by_cases e:i=r
  ·rw [e,own n,mu n fun k _=>by rw [own k]];exact h r o
  ·rw [g i e,h i hi,h r o];unfold dD;rw [if_neg e]
structure wM (n:Nat) (m:Nat->Nat->Rat) (r c:Nat) (P:Nat->Nat):Prop where
 rn:r<=n
 cn:c<=n+1
 at_:∀ j,j<r->P j<c
 up:∀ i j,i<j->j<r->P i<P j
 lead:∀ j,j<r->m j (P j)≠0
 other:∀ j,j<r->∀ i,i<n->i≠j->m i (P j)=0
 low:∀ i,r<=i->i<n->∀ k,k<c->m i k=0
 left:∀ j,j<r->∀ k,k<P j->m j k=0
theorem Bf (n:Nat) (m:Nat->Nat->Rat) (P:Nat->Nat):wM n m 0 0 P :=
 ⟨O,O,fun _ h=>O,fun _ _ _ h=>O,fun _ h=>O,fun _ h=>O,fun _ _ _ _ h=>O,fun _ h=>O⟩
theorem D8 {m:Nat->Nat->Rat} (h:wM n m r c P) (hc:c<=n) (p:∀ i,r<=i->i<n->m i c=0):wM n m r (c+1) P :=
 ⟨h.rn,O,fun j q=>Nat.lt_succ_of_lt (h.at_ j q),h.up,h.lead,h.other,fun i g o k t=>by
  by_cases e:k=c
  ·subst e;exact p i g o
  ·exact h.low i g o k O,h.left⟩
theorem D9 {m:Nat->Nat->Rat} {p:Nat} (h:wM n m r c P) (hc:c<=n) (v:r<=p) (t:p<n) (z:m p c≠0) (f:Nat->Rat)
  (hf:∀ i,i<n->i≠r->f i*dI m r p r c=dI m r p i c):wM n (dD (dI m r p) r f) (r+1) (c+1) (fun j=>if j=r then c else P j):=by
 have A:r<n:=O
 have B:dI m r p r=m p:=by unfold dI;rw [if_pos rfl]
 have o:∀ i,i<r->dI m r p i=m i:=fun i hi=>by unfold dI;rw [if_neg O,if_neg O]
 have q:∀ i,r<=i->i<n->∀ k,k<c->dI m r p i k=0:=fun i F x k g=>by
  unfold dI;split
  ·exact h.low p v t k g
  ·split
   ·exact h.low r zL A k g
   ·exact h.low i F x k g
 have C:∀ k,dD (dI m r p) r f r k=m p k:=fun k=>by unfold dD;rw [if_pos rfl,B]
 have lo:∀ i,i≠r->∀ k,dD (dI m r p) r f i k=dI m r p i k-f i*m p k:=fun i hi k=>by unfold dD;rw [if_neg hi,B]
 have w:∀ i,i≠r->∀ k,k<c->dD (dI m r p) r f i k=dI m r p i k:=fun i hi k g=>by
  rw [lo i hi,h.low p v t k g];grind
 have lc:∀ i,i<n->i≠r->dD (dI m r p) r f i c=0:=fun i hi G=>by
  rw [lo i G];have:=hf i hi G;rw [B] at this;rw [this];grind
 refine ⟨O,O,fun j y=>?_,fun i j D y=>?_,fun j y=>?_,fun j y i hi u=>?_,fun i F x k g=>?_,fun j y k g=>?_⟩
 ·try dsimp only
  split
  ·omega
  ·exact Nat.lt_succ_of_lt (h.at_ j O)
 ·try dsimp only
  rw [if_neg (show ¬ i=r by omega)];by_cases e:j=r
  ·rw [if_pos e];exact h.at_ i O
  ·rw [if_neg e];exact h.up i j D O
 ·try dsimp only
  by_cases e:j=r
  ·rw [if_pos e,e,C];exact z
  ·rw [if_neg e,w j e _ (h.at_ j O),o j O];exact h.lead j O
 ·try dsimp only
  by_cases e:j=r
  ·rw [if_pos e];exact lc i hi O
  ·rw [if_neg e];by_cases E:i=r
   ·rw [E,C];exact h.low p v t _ (h.at_ j O)
   ·rw [w i E _ (h.at_ j O)];by_cases hlt:i<r
    ·rw [o i hlt];exact h.other j O i hi u
    ·exact q i O hi _ (h.at_ j O)
 ·by_cases e:k=c
  ·rw [e];exact lc i x O
  ·rw [w i O k O];exact q i O x k O
 ·try dsimp only at g
  by_cases e:j=r
  ·rw [if_pos e] at g;rw [e,C];exact h.low p v t k g
  ·rw [if_neg e] at g;have:=h.at_ j O;rw [w j e k O,o j O];exact h.left j O k g
theorem Ct {m:Nat->Nat->Rat} (h:wM n m r c P) (j:Nat) (e:j<r) (hP:P j=n) (y:Nat->Rat):¬ tH n m y:=by
 intro ha;have g:=ha j (Nat.lt_of_lt_of_le e h.rn);rw [oy n fun k o=>by rw [h.left j e k O];grind] at g;have:=h.lead j e;rw [hP] at this;exact this g.symm
theorem EI {m:Nat->Nat->Rat} (h:wM n m r c P):∀ j,j<r->j<=P j
 | 0,_=>Nat.zero_le _
 | j+1,hj=>by
  have e:=EI h j O;have g:=h.up j (j+1) O hj;omega
theorem EJ {m:Nat->Nat->Rat} (h:wM n m n c P) (hn:∀ j,j<n->P j<n):∀ d j,j+d=n->j<n->P j=j:=by
 have g:∀ d j,j+d=n->0<d->P j+d<=n:=by
  intro d;induction d with
  | zero=>intro j _ h0;omega
  | succ d ih =>
   intro j e _;by_cases h0:d=0
   ·have:=hn j O;omega
   ·have o:=ih (j+1) O O;have p:=h.up j (j+1) O O;omega
 intro d j e hlt;have o:=g d j e O;have p:=EI h j hlt;omega
theorem end_one {m:Nat->Nat->Rat} (h:wM n m n c P) (hn:∀ j,j<n->P j<n) :
  tH n m (fun i=>m i n / m i i)/\∀ y,tH n m y->∀ i,i<n->y i=m i n / m i i:=by
 have o:∀ j,j<n->P j=j:=fun j u=>EJ h hn (n-j) j O u
 have hd:∀ i,i<n->m i i≠0:=fun i hi=>by have:=h.lead i hi;rw [o i hi] at this;exact this
 have q:∀ i k,i<n->k<n->k≠i->m i k=0:=fun i k hi g e=>by have:=h.other k g i hi (Ne.symm e);rw [o k g] at this;exact this
 have row:∀ (y:Nat->Rat) (i:Nat),i<n->sm (fun k=>m i k*y k) n=m i i*y i:=fun y i hi=>xZ i n hi fun k g e=>by rw [q i k hi g e];grind
 refine ⟨fun i hi=>?_,fun y hy i hi=>?_⟩
 ·rw [row _ i hi];have:=hd i hi;rw [Rat.mul_comm];exact Rat.div_mul_cancel this
 ·have p:=hy i hi;rw [row y i hi] at p;have t:=hd i hi;rw [<- p,Rat.mul_comm];exact (Rat.mul_div_cancel t).symm
def qy (m:Nat->Nat->Rat) (n r:Nat) (P:Nat->Nat) (g:Nat->Rat):Nat->Nat->Rat
 | 0,k=>g k
 | j+1,k=>if k=P j then (m j n-sm (fun q=>m j q*g q) n) / m j (P j) else qy m n r P g j k
theorem lT {m:Nat->Nat->Rat} {g:Nat->Rat} : ∀ j,(∀ i,i<j->P i≠k)->qy m n r P g j k=g k
 | 0,_=>rfl
 | j+1,h=>by rw [qy,if_neg (fun e=>h j O e.symm),lT j fun i hi=>h i O]
theorem yD {m:Nat->Nat->Rat} (h:wM n m r c P) (g:Nat->Rat) (i:Nat):∀ j,j<=r->i<j->qy m n r P g j (P i)=(m i n-sm (fun q=>m i q*g q) n) / m i (P i)
 | 0,_,hi=>absurd hi (Nat.not_lt_zero _)
 | j+1,hj,hi=>by
  rw [qy];by_cases e:i=j
  ·subst e;rw [if_pos rfl]
  ·have:=h.up i j O O;rw [if_neg O];exact yD h g i j O O
theorem ug {m:Nat->Nat->Rat} (h:wM n m r (n+1) P) (hn:∀ j,j<r->P j<n) (g:Nat->Rat) (hg:∀ j,j<r->g (P j)=0):tH n m (qy m n r P g r):=by
 intro i hi;by_cases p:i<r
 ·have v:=h.lead i p;have e:sm (fun k=>m i k*qy m n r P g r k) n=sm (fun k=>m i k*g k) n+m i (P i)*qy m n r P g r (P i):=by
   have u:sm (fun k=>m i k*qy m n r P g r k-1*(m i k*g k)) n=m i (P i)*qy m n r P g r (P i)-1*(m i (P i)*g (P i)):=by
    refine xZ (P i) n (hn i p) fun k w t=>?_
    by_cases o:∃ j,j<r/\P j=k
    ·obtain ⟨j,q,rfl⟩:=o;have:i≠j:=fun e=>t (by rw [e])
     rw [h.other j q i hi this];grind
    ·rw [lT r fun j q e=>o ⟨j,q,e⟩];grind
   rw [yb] at u;rw [hg i p] at u;grind
  rw [e,yD h g i r zL p,Rat.mul_comm,Rat.div_mul_cancel v];grind
 ·rw [oy n fun k w=>by rw [h.low i O hi k O];grind,h.low i O hi n O]
theorem ui {m:Nat->Nat->Rat} (h:wM n m r c P):∀ s,s<=r->∃ q,q<=s/\∀ j,j<s->P j≠q
 | 0,_=>⟨0,zL,fun j o=>O⟩
 | s+1,hs=>by
  obtain ⟨q,u,p⟩:=ui h s O;by_cases e:P s=q
  ·have t:=EI h s O;refine ⟨s+1,zL,fun j o=>?_⟩;by_cases g:j=s
   ·rw [g];omega
   ·have:=h.up j s O O;omega
  ·exact ⟨q,O,fun j o=>by
    by_cases g:j=s
    ·rw [g];exact e
    ·exact p j O⟩
theorem end_two {m:Nat->Nat->Rat} (h:wM n m r (n+1) P) (hn:∀ j,j<r->P j<n) (o:r<n):∃ y z q,tH n m y/\tH n m z/\q<n/\y q≠z q:=by
 obtain ⟨q,p,e⟩:=ui h r zL;refine ⟨_,_,q,ug h hn (fun _=>0) (fun _ _=>rfl),ug h hn (fun k=>if k=q then 1 else 0) (fun j g=>if_neg (e j g)),O,?_⟩;rw [lT r e,lT r e,if_pos rfl];decide
end Rk
end Go.Proofs.YtkbmbmdemajoaaaGreatDoor
