/- Contracts. -/
import Derived.Test.YtbomdfhdocaagaaGreatDoorXPa
import Derived.Lib.ItoaNum
namespace Go.Proofs.YtbomdfhdocaagaaGreatDoor
open Go.RowKit
set_option linter.all false
set_option maxHeartbeats 8000000
set_option maxRecDepth 10000
variable {P:Nat->Nat} {n r c k done i:Nat} {m W R:Nat->Nat->Rat} {perm order ρ l:List Nat} {d s b a:Rat} {Wh:Nat->Rat->Prop} {S R' f:Nat->Rat}
def gD (b:Bool) (n:Nat):Int:=if b then -(n:Int) else n
def FG (x:Int):gD (decide (x<0)) x.natAbs=x:=by
 unfold gD;by_cases h:x<0
 ·simp [h];omega
 ·simp [h];omega
def oX (b:Bool) (n:Nat):(gD b n).natAbs=n:=by unfold gD;cases b<;>simp
def sgq_neg (b:Bool) (n:Nat) (h:n≠0):decide (gD b n<0)=b:=by
 unfold gD;cases b<;>simp<;>omega
def mk_zero (b:Bool) (n d:Nat) (h:n=0∨d=0):mkRat (gD b n) d=0:=by
 rcases h with h | h
 ·subst h;have:gD b 0=0:=by unfold gD;cases b<;>rfl
  rw [this,Rat.zero_mkRat]
 ·subst h;rw [Rat.mkRat_zero]
def vM (b:Bool) (n d:Nat) (hn:n≠0) (hd:d≠0) :
  decide ((mkRat (gD b n) d).num<0)=b/\(mkRat (gD b n) d).num.natAbs=n / Nat.gcd n d/\(mkRat (gD b n) d).den=d / Nat.gcd n d:=by
 have hg:0<Nat.gcd n d:=Nat.gcd_pos_of_pos_left _ O;have o:((Nat.gcd n d:Nat):Int)∣gD b n:=by
  rw [<- Int.dvd_natAbs,oX];exact Int.natCast_dvd_natCast.2 (Nat.gcd_dvd_left n d)
 have j:(mkRat (gD b n) d).num=gD b n / (Nat.gcd n d:Nat):=by
  rw [Rat.num_mkRat,if_neg hd,oX,Nat.gcd_comm]
 have p:(mkRat (gD b n) d).den=d / Nat.gcd n d:=by
  rw [Rat.den_mkRat,if_neg hd,oX,Nat.gcd_comm d n]
 have g:(gD b n / (Nat.gcd n d:Nat)).natAbs=n / Nat.gcd n d:=by
  rw [Int.natAbs_ediv_of_dvd o,oX,Int.natAbs_natCast]
 have t:0<n / Nat.gcd n d:=Nat.div_pos (Nat.le_of_dvd O (Nat.gcd_dvd_left n d)) hg;refine ⟨?_,by rw [j,g],p⟩;rw [j];have e:gD b n=(gD b n / (Nat.gcd n d:Nat))*(Nat.gcd n d:Nat):=(Int.ediv_mul_cancel o).symm;have u:gD b n / (Nat.gcd n d:Nat)≠0:=by
  intro w;rw [w] at g;simp at g;omega
 have v:=sgq_neg b n hn;refine Eq.trans ?_ v;rw [Bool.eq_iff_iff,decide_eq_true_eq,decide_eq_true_eq];constructor
 ·intro h;rw [e];exact Int.mul_neg_of_neg_of_pos h O
 ·intro h;rw [e] at h;rcases Int.lt_trichotomy (gD b n / (Nat.gcd n d:Nat)) 0 with q | q | q
  ·exact q
  ·exact absurd q u
  ·exact absurd h (by have:=Int.mul_pos q (show (0:Int)<(Nat.gcd n d:Nat) by omega);omega)
def rB (q:Rat):Bool:=decide (q.num<0)
def rN (q:Rat):Nat:=q.num.natAbs
def fC (q:Rat):gD (rB q) (rN q)=q.num:=FG _
def sgq_mul (a b:Bool) (m n:Nat):gD (a != b) (m*n)=gD a m*gD b n:=by
 unfold gD;cases a<;>cases b<;>simp<;>grind
def q_mul (x y:Rat):mkRat (gD (rB x != rB y) (rN x*rN y)) (x.den*y.den)=x*y:=by
 rw [sgq_mul,fC,fC,Rat.mul_def']
def ff (b:Bool) (m n:Nat):gD b (m*n)=gD b m*n:=by
 unfold gD;cases b<;>simp
 grind
def E6 (x y:Rat):mkRat (gD (rB x != rB y) (rN x*y.den)) (rN y*x.den)=x / y:=by
 by_cases hy:y=0
 ·subst hy;rw [show rN 0*x.den=0 by simp [rN],Rat.mkRat_zero,Rat.div_def,Rat.inv_zero,Rat.mul_zero]
 ·have g:y.num≠0:=fun h=>hy (Rat.num_eq_zero.1 h)
  have j:rN y≠0:=by unfold rN;omega
  have e:x / y=Rat.divInt (x.num*y.den) (x.den*y.num):=by
   rw [Rat.div_def,Rat.inv_def,<- Rat.divInt_mul_divInt,Rat.num_divInt_den]
  rw [e,<- Rat.divInt_ofNat,Rat.divInt_eq_divInt_iff (by have:=x.den_nz;simp;omega) (by
   have:=x.den_nz;intro h;rcases Int.mul_eq_zero.1 h with h | h
   ·omega
   ·exact g h)]
  rw [ff];have o:gD (rB x != rB y) (rN x)*y.num=x.num*(rN y:Nat):=by
   have p:=fC x;have q:=fC y;rw [<- p,<- q];unfold gD;cases rB x<;>cases rB y<;>simp<;>grind
  rw [Int.natCast_mul]
  calc gD (rB x != rB y) (rN x)*(y.den:Int)*((x.den:Int)*y.num)=(gD (rB x != rB y) (rN x)*y.num)*((y.den:Int)*x.den):=by grind
   _=x.num*(rN y:Nat)*((y.den:Int)*x.den):=by rw [o]
   _=x.num*(y.den:Int)*((rN y:Int)*(x.den:Int)):=by grind
def q_ne {x:Rat} (h:x≠0):rN x≠0:=by
 have:x.num≠0:=fun e=>h (Rat.num_eq_zero.1 e)
 unfold rN;omega
def E8 {x:Rat} (h:rN x=0):x=0:=by
 refine Rat.num_eq_zero.1 ?_;unfold rN at h;omega
def km (b1:Bool) (m:Nat) (b2:Bool) (n:Nat):Bool:=if b1=b2 then b1 else if m<n then b2 else b1 && decide (0<m-n)
def iX (b1:Bool) (m:Nat) (b2:Bool) (n:Nat):Nat:=if b1=b2 then m+n else if m<n then n-m else m-n
def AI (e:Bool) (m:Nat) (g:Bool) (n:Nat):gD (km e m g n) (iX e m g n)=gD e m+gD g n:=by
 unfold km iX gD;by_cases h:e=g
 ·subst h;rw [if_pos rfl,if_pos rfl];cases e<;>simp<;>omega
 ·rw [if_neg h,if_neg h];by_cases j:m<n
  ·rw [if_pos j,if_pos j];cases e<;>cases g<;>simp_all<;>omega
  ·rw [if_neg j,if_neg j];by_cases o:0<m-n
   ·cases e<;>cases g<;>simp_all<;>omega
   ·have:m=n:=O
    subst this;cases e<;>cases g<;>simp_all<;>omega
def AH (e:Bool) (m:Nat) (g:Bool) (n:Nat) (o:e=true->0<m) (p:g=true->0<n):km e m g n=true->0<iX e m g n:=by
 unfold km iX;by_cases h:e=g
 ·subst h;rw [if_pos rfl,if_pos rfl];intro hb;have:=o hb;omega
 ·rw [if_neg h,if_neg h];by_cases j:m<n
  ·rw [if_pos j,if_pos j];intro _;omega
  ·rw [if_neg j,if_neg j];simp
def uf (g:Bool) (m:Nat) (j:Bool) (n:Nat) (h:k∣iX g m j n) (hn:k∣n):k∣m:=by
 unfold iX at h;by_cases e:g=j
 ·rw [if_pos e] at h;exact (Nat.dvd_add_left hn).1 h
 ·rw [if_neg e] at h;by_cases o:m<n
  ·rw [if_pos o] at h;have:m=n-(n-m):=O
   rw [this];exact Nat.dvd_sub hn h
  ·rw [if_neg o] at h;have:m=(m-n)+n:=O
   rw [this];exact Nat.dvd_add h hn
def rx (j:Bool) (m:Nat) (o:Bool) (n:Nat) (h:k∣iX j m o n) (g:k∣m):k∣n:=by
 unfold iX at h;by_cases e:j=o
 ·rw [if_pos e] at h;exact (Nat.dvd_add_right g).1 h
 ·rw [if_neg e] at h;by_cases p:m<n
  ·rw [if_pos p] at h;have:n=(n-m)+m:=O
   rw [this];exact Nat.dvd_add h g
  ·rw [if_neg p] at h;have:n=m-(m-n):=O
   rw [this];exact Nat.dvd_sub g h
def j8 (b1:Bool) (n1 d1:Nat) (b2:Bool) (n2 d2:Nat):Nat:=iX b1 (n1*(d2 / Nat.gcd d1 d2)) b2 (n2*(d1 / Nat.gcd d1 d2))
def EK (b1:Bool) (n1 d1:Nat) (b2:Bool) (n2 d2:Nat):Bool:=km b1 (n1*(d2 / Nat.gcd d1 d2)) b2 (n2*(d1 / Nat.gcd d1 d2))
def vZ (p q:Bool) {j g o e:Nat} (V:Nat.gcd j g=1) (X:Nat.gcd o e=1) (Y:0<g) (p2:0<e) :
  0<g / Nat.gcd g e*(e / Nat.gcd (j8 p j g q o e) (Nat.gcd g e))
  /\ Nat.gcd (j8 p j g q o e / Nat.gcd (j8 p j g q o e) (Nat.gcd g e)) (g / Nat.gcd g e*(e / Nat.gcd (j8 p j g q o e) (Nat.gcd g e)))=1:=by
 obtain ⟨T,U⟩:=eX (j8 p j g q o e);obtain ⟨G,u⟩:=eX (Nat.gcd g e);obtain ⟨x,ex⟩:=eX (g / G);obtain ⟨y,K⟩:=eX (e / G);have B:0<G:=by rw [u];exact Nat.gcd_pos_of_pos_left _ Y
 have L:g=G*x:=by rw [ex,u];exact (Nat.mul_div_cancel' (Nat.gcd_dvd_left g e)).symm
 have C:e=G*y:=by rw [K,u];exact (Nat.mul_div_cancel' (Nat.gcd_dvd_right g e)).symm
 have w:Nat.Coprime x y:=by rw [ex,K,u];exact Nat.coprime_div_gcd_div_gcd (by rw [<- u];exact B)
 have M:T=iX p (j*y) q (o*x):=by rw [U,ex,K,u];rfl
 rw [<- U,<- u,<- ex];obtain ⟨H,v⟩:=eX (Nat.gcd T G);rw [<- v];have N:0<H:=by rw [v];exact Nat.gcd_pos_of_pos_right _ B
 have z:H∣G:=by rw [v];exact Nat.gcd_dvd_right _ _
 have D:H∣T:=by rw [v];exact Nat.gcd_dvd_left _ _
 have e3:e / H=G / H*y:=by rw [C,Nat.mul_comm,Nat.mul_div_assoc _ z,Nat.mul_comm]
 have px:0<x:=by
  rcases zP x with h | h
  ·rw [h,Nat.mul_zero] at L;omega
  ·exact h
 have py:0<y:=by
  rcases zP y with h | h
  ·rw [h,Nat.mul_zero] at C;omega
  ·exact h
 have cx:Nat.Coprime T x:=by
  have E:Nat.gcd T x∣T:=Nat.gcd_dvd_left _ _;have t:Nat.gcd T x∣x:=Nat.gcd_dvd_right _ _;have F:Nat.gcd T x∣j*y:=uf p _ q _ (by rw [<- M];exact E) (Nat.dvd_trans t (Nat.dvd_mul_left _ _));have I:Nat.Coprime (Nat.gcd T x) y:=Nat.Coprime.coprime_dvd_left t w;have J:Nat.gcd T x∣j:=Nat.Coprime.dvd_of_dvd_mul_right I F;have A:Nat.gcd T x∣Nat.gcd j g:=Nat.dvd_gcd J (Nat.dvd_trans t (by rw [L];exact Nat.dvd_mul_left _ _));rw [V] at A;exact Nat.dvd_one.1 A
 have cy:Nat.Coprime T y:=by
  have E:Nat.gcd T y∣T:=Nat.gcd_dvd_left _ _;have t:Nat.gcd T y∣y:=Nat.gcd_dvd_right _ _;have F:Nat.gcd T y∣o*x:=rx p _ q _ (by rw [<- M];exact E) (Nat.dvd_trans t (Nat.dvd_mul_left _ _));have I:Nat.Coprime (Nat.gcd T y) x:=Nat.Coprime.coprime_dvd_left t w.symm;have J:Nat.gcd T y∣o:=Nat.Coprime.dvd_of_dvd_mul_right I F;have A:Nat.gcd T y∣Nat.gcd o e:=Nat.dvd_gcd J (Nat.dvd_trans t (by rw [C];exact Nat.dvd_mul_left _ _));rw [X] at A;exact Nat.dvd_one.1 A
 have Q:T / H∣T:=Nat.div_dvd_of_dvd D;have c1:Nat.Coprime (T / H) x:=Nat.Coprime.coprime_dvd_left Q cx;have c2:Nat.Coprime (T / H) y:=Nat.Coprime.coprime_dvd_left Q cy;have c3:Nat.Coprime (T / H) (G / H):=by
  have hh:0<Nat.gcd T G:=by rw [<- v];exact N
  have:=Nat.coprime_div_gcd_div_gcd hh;rw [<- v] at this;exact this
 rw [e3];refine ⟨Nat.mul_pos px (Nat.mul_pos (Nat.div_pos (Nat.le_of_dvd B z) N) py),?_⟩;exact Nat.Coprime.mul_right c1 (Nat.Coprime.mul_right c3 c2)
def Ao (p q:Rat) :
  mkRat (gD (EK (rB p) (rN p) p.den (rB q) (rN q) q.den) (j8 (rB p) (rN p) p.den (rB q) (rN q) q.den / Nat.gcd (j8 (rB p) (rN p) p.den (rB q) (rN q) q.den) (Nat.gcd p.den q.den)))
   (p.den / Nat.gcd p.den q.den*(q.den / Nat.gcd (j8 (rB p) (rN p) p.den (rB q) (rN q) q.den) (Nat.gcd p.den q.den)))=p+q:=by
 obtain ⟨T,x⟩:=eX (j8 (rB p) (rN p) p.den (rB q) (rN q) q.den);obtain ⟨B,y⟩:=eX (EK (rB p) (rN p) p.den (rB q) (rN q) q.den);obtain ⟨G,e⟩:=eX (Nat.gcd p.den q.den);have z:0<p.den:=p.den_pos;have j:0<G:=by rw [e];exact Nat.gcd_pos_of_pos_left _ z
 have w:G*(p.den / G)=p.den:=by rw [e];exact Nat.mul_div_cancel' (Nat.gcd_dvd_left _ _)
 have A:G*(q.den / G)=q.den:=by rw [e];exact Nat.mul_div_cancel' (Nat.gcd_dvd_right _ _)
 have C:gD B T=gD (rB p) (rN p*(q.den / G))+gD (rB q) (rN q*(p.den / G)):=by
  rw [y,x,e];exact AI _ _ _ _
 rw [<- x,<- y,<- e];obtain ⟨H,h⟩:=eX (Nat.gcd T G);rw [<- h];have D:0<H:=by rw [h];exact Nat.gcd_pos_of_pos_right _ j
 have o:H∣G:=by rw [h];exact Nat.gcd_dvd_right _ _
 have t:H∣T:=by rw [h];exact Nat.gcd_dvd_left _ _
 have u:H∣q.den:=Nat.dvd_trans o (by rw [e];exact Nat.gcd_dvd_right _ _);rw [<- Rat.mkRat_mul_left (a:=G*H) (by have:=Nat.mul_pos j D;omega),Rat.add_def'];have g:T / H*H=T:=Nat.div_mul_cancel t;have v:q.den / H*H=q.den:=Nat.div_mul_cancel u;congr 1
 ·have:((G*H:Nat):Int)*gD B (T / H)=gD B T*(G:Nat):=by
   rw [<- g,ff B (T / H) H,Int.natCast_mul,g];grind
  rw [this,C,ff,ff,fC,fC];have f1:((q.den:Nat):Int)=(G:Nat)*((q.den / G:Nat):Int):=by rw [<- Int.natCast_mul,A]
  have E:((p.den:Nat):Int)=(G:Nat)*((p.den / G:Nat):Int):=by rw [<- Int.natCast_mul,w]
  rw [f1];conv=>rhs;rw [E]
  have F:q.den / G=q.den / G:=rfl;have I:G*(q.den / G) / G=q.den / G:=by rw [Nat.mul_div_cancel_left _ j]
  grind
 ·calc G*H*(p.den / G*(q.den / H))=(G*(p.den / G))*(q.den / H*H):=by ac_rfl
   _=p.den*q.den:=by rw [w,v]
namespace Nums
def uC (a b c:Rat):a+b+c=a+(b+c):=Rat.add_assoc a b c
def xD (a b:Rat):a+b=b+a:=Rat.add_comm a b
def lS (a:Rat):0+a=a:=Rat.zero_add a
def El (a:Rat):-a+a=0:=Rat.neg_add_cancel a
def subE (a b:Rat):a-b=a + -b:=Rat.sub_eq_add_neg a b
def mulA (a b c:Rat):a*b*c=a*(b*c):=Rat.mul_assoc a b c
def mK (a b:Rat):a*b=b*a:=Rat.mul_comm a b
def jq (a:Rat):1*a=a:=Rat.one_mul a
def mA (a b c:Rat):a*(b+c)=a*b+a*c:=Rat.mul_add a b c
def Bf (a b:Rat) (h:b≠0):a / b*b=a:=Rat.div_mul_cancel h
def EC:(1:Rat)≠0:=zD
def cd (a:Rat):a+0=a:=by rw [xD,lS]
def pt (a:Rat):a + -a=0:=by rw [xD,El]
def sV (a:Rat):a*1=a:=by rw [mK,jq]
def rL (a b c:Rat):(a+b)*c=a*c+b*c:=by rw [mK,mA,mK c a,mK c b]
def canc {c:Rat} (h:a+b=a+c):b=c:=by
 have:-a+(a+b) = -a+(a+c):=by rw [h]
 rw [<- uC,<- uC,El,lS,lS] at this;exact this
def cZ (a:Rat):a*0=0:=by
 apply canc (a:=a*0);rw [<- mA,cd,cd]
def iR (a:Rat):0*a=0:=by rw [mK,cZ]
def iB (h:a+b=0):b = -a:=by
 apply canc (a:=a);rw [h,pt]
def oG (a b:Rat):-a*b = -(a*b):=by
 apply iB;rw [<- rL,pt,iR]
def pE (a b:Rat):a * -b = -(a*b):=by rw [mK,oG,mK]
def jN (a:Rat):-(-a)=a:=(iB (El a)).symm
def yu (a b:Rat):-(a+b) = -a + -b:=by
 apply Eq.symm;apply iB
 calc a+b+(-a + -b)=(a + -a)+(b + -b):=by grind
  _=0:=by rw [pt,pt,cd]
def iN:-(0:Rat)=0:=(iB (cd 0)).symm
def lh (h:a + -b=0):a=b:=by
 have:=iB h;have e:-(-b) = -(-a):=by rw [this]
 rw [jN,jN] at e;exact e.symm
def iy (h:b≠0):1 / b*b=1:=Bf 1 b h
def Dp (a:Rat) (h:b≠0):a / b=a*(1 / b):=by
 calc a / b=a / b*(1 / b*b):=by rw [iy h,sV]
  _=(a / b*b)*(1 / b):=by grind
  _=a*(1 / b):=by rw [Bf a b h]
def Ds {c:Rat} (h:b≠0) (e:c*b=a):a / b=c:=by
 rw [Dp a h,<- e,mulA,mK b,iy h,sV]
def xw (h:b≠0):0 / b=0:=Ds h (iR b)
def iA (ha:a≠0) (hb:b≠0):a*b≠0:=by
 intro h;apply hb
 calc b=1 / a*a*b:=by rw [iy ha,jq]
  _=1 / a*(a*b):=by rw [mulA]
  _=0:=by rw [h,cZ]
def iS (ha:a≠0) (h:a*b=0):b=0:=by
 apply Classical.byContradiction;intro hb;exact iA ha hb h
def Em (h:a≠0):-a≠0:=by
 intro e;apply h;rw [<- jN a,e,iN]
end Nums
open Nums
def gT (v:Nat->Rat):(List Nat->Rat)->List Nat->Rat
 | _,[]=>0
 | f,a :: l=>v a*f l + -(gT v (fun l'=>f (a :: l')) l)
def oP (u:Nat->Rat) (c:Rat):∀ (l:List Nat) (g h:List Nat->Rat),
  gT u (fun e=>c*g e+h e) l=c*gT u g l+gT u h l:=by
 intro l;induction l with
 | nil=>intro g h;simp only [gT];rw [cZ,cd]
 | cons a l ih =>
  intro g h;simp only [gT];rw [ih (fun e=>g (a :: e)) (fun e=>h (a :: e))];simp only [mA,yu,pE];grind
def vB (u:Nat->Rat):∀ (l:List Nat),gT u (fun _=>0) l=0:=by
 intro l;induction l with
 | nil=>rfl
 | cons a l ih=>simp only [gT];rw [ih,cZ,iN,cd]
def mI (u:Nat->Rat) (h:List Nat->Rat) (l:List Nat):gT u (fun e=>-(h e)) l = -(gT u h l):=by
 have:=oP u (-1) l h (fun _=>0);rw [vB,cd,oG,jq] at this;rw [<- this];congr 1
 funext e
 rw [oG,jq,cd]
def lap_alt (v:Nat->Rat):∀ (l:List Nat) (f:List Nat->Rat),gT v (gT v f) l=0:=by
 intro l;induction l with
 | nil=>intro f;rfl
 | cons a l ih =>
  intro f;show v a*gT v f l + -(gT v (fun g=>v a*f g + -(gT v (fun e=>f (a :: e)) g)) l)=0
  rw [oP v (v a) l f (fun g=>-(gT v (fun e=>f (a :: e)) g)),mI,ih,iN,cd,pt]
def D8 (u v:Nat->Rat):∀ (l:List Nat) (f:List Nat->Rat),gT u (gT v f) l = -(gT v (gT u f) l):=by
 intro l;induction l with
 | nil=>intro f;exact iN.symm
 | cons a l ih =>
  intro f;show u a*gT v f l + -(gT u (fun g=>v a*f g + -(gT v (fun e=>f (a :: e)) g)) l)
   = -(v a*gT u f l + -(gT v (fun g=>u a*f g + -(gT u (fun e=>f (a :: e)) g)) l))
  rw [oP u (v a) l f (fun g=>-(gT v (fun e=>f (a :: e)) g)),mI,ih,
   oP v (u a) l f (fun g=>-(gT u (fun e=>f (a :: e)) g)),mI]
  simp only [yu,jN];grind
def cR (W:Nat->Nat->Rat):List Nat->List Nat->Rat
 | [],_=>1
 | j :: γ,l=>gT (fun r=>W r j) (cR W γ) l
def uR (W:Nat->Nat->Rat) (c j:Nat) (e:List Nat):∀ (γ1 l:List Nat),cR W (γ1++c :: j :: e) l = -(cR W (γ1++j :: c :: e) l):=by
 intro γ1;induction γ1 with
 | nil=>intro l;exact D8 _ _ l _
 | cons g γ1 ih =>
  intro l;have:cR W (γ1++c :: j :: e)=fun l=>-(cR W (γ1++j :: c :: e) l):=funext ih
  simp only [List.cons_append,cR];rw [this,mI]
def oN (W:Nat->Nat->Rat) (j:Nat):∀ (γ:List Nat),j∈γ->∀ l,cR W (j :: γ) l=0:=by
 intro γ;induction γ with
 | nil=>intro h;simp at h
 | cons c γ ih =>
  intro h l;by_cases hc:j=c
  ·subst hc;exact lap_alt _ l _
  ·have g:j∈γ:=by simpa [hc] using h
   have:=uR W j c γ [] l;simp only [List.nil_append] at this;rw [this];have e:cR W (j :: γ)=fun _=>0:=funext (ih g)
   simp only [cR] at e ⊢;rw [e,vB,iN]
def rI (W:Nat->Nat->Rat) (j:Nat) (g:List Nat):∀ (γ1 l:List Nat),
  cR W (γ1++j :: g) l=cR W (j :: (γ1++g)) l∨cR W (γ1++j :: g) l = -(cR W (j :: (γ1++g)) l):=by
 have o:∀ γ1:List Nat,(∀ l,cR W (γ1++j :: g) l=cR W (j :: (γ1++g)) l)∨(∀ l,cR W (γ1++j :: g) l = -(cR W (j :: (γ1++g)) l)):=by
  intro γ1;induction γ1 with
  | nil=>exact .inl fun _=>rfl
  | cons c γ1 ih =>
   have p:∀ l,cR W (j :: c :: (γ1++g)) l = -(cR W (c :: j :: (γ1++g)) l):=fun l=>by
    have:=uR W j c (γ1++g) [] l;simpa only [List.nil_append] using this
   rcases ih with ih | ih
   ·right
    intro l;have e:cR W (γ1++j :: g)=cR W (j :: (γ1++g)):=funext ih;show gT _ (cR W (γ1++j :: g)) l=_
    rw [e];show cR W (c :: j :: (γ1++g)) l = -(cR W (j :: c :: (γ1++g)) l)
    rw [p,jN]
   ·left
    intro l;have e:cR W (γ1++j :: g)=fun l=>-(cR W (j :: (γ1++g)) l):=funext ih
    show gT _ (cR W (γ1++j :: g)) l=_
    rw [e,mI];show -(cR W (c :: j :: (γ1++g)) l)=cR W (j :: c :: (γ1++g)) l
    rw [p]
 intro γ1 l;rcases o γ1 with h | h
 ·exact .inl (h l)
 ·exact .inr (h l)
structure uB (Wh:Nat->Rat->Prop):Prop where
 zero:∀ b,Wh b 0
 one:∀ b,1<=b->Wh b 1
 add:∀ b c x y,Wh b x->Wh c y->Wh (b+c) (x+y)
 mul:∀ b c x y,Wh b x->Wh c y->Wh (b*c) (x*y)
 neg:∀ b x,Wh b x->Wh b (-x)
 mono:∀ b c x,b<=c->Wh b x->Wh c x
def lap_wh (g:uB Wh) (v:Nat->Rat) (K:Nat):∀ (l:List Nat) (f:List Nat->Rat),
  (∀ p a q,l=p++a :: q->Wh K (v a*f (p++q)))->Wh (l.length*K) (gT v f l):=by
 intro l;induction l with
 | nil=>intro f _;exact g.zero _
 | cons a l ih =>
  intro f h;have j:=ih (fun t=>f (a :: t)) (fun p b q e=>h (a :: p) b q (by rw [e];rfl));have o:Wh K (v a*f l):=h [] a l rfl;have:=g.add _ _ _ _ o (g.neg _ _ j);refine g.mono _ _ _ ?_ this;rw [List.length_cons,Nat.add_mul,Nat.one_mul,Nat.add_comm];exact zL
def bg (b:Nat->Nat):List Nat->Nat
 | []=>1
 | a :: l=>b a*bg b l
def jt (b:Nat->Nat):∀ l l':List Nat,bg b (l++l')=bg b l*bg b l':=by
 intro l l';induction l with
 | nil=>simp [bg]
 | cons a l ih=>simp only [List.cons_append,bg];rw [ih,Nat.mul_assoc]
def lA (b:Nat->Nat) (hb:∀ r,1<=b r):∀ l:List Nat,1<=bg b l:=by
 intro l;induction l with
 | nil=>exact zL
 | cons a l ih=>exact Nat.mul_pos (hb a) ih
def pW (g:uB Wh) (W:Nat->Nat->Rat) (b:Nat->Nat) (hb:∀ r,1<=b r) (u:∀ r j,Wh (b r) (W r j)) (N:Nat) (t:0<N):∀ (γ l:List Nat),
  l.length<=N->Wh (bg (fun r=>N*b r) l) (cR W γ l):=by
 have h:∀ r,1<=N*b r:=fun r=>Nat.mul_pos t (hb r)
 intro γ;induction γ with
 | nil=>intro l _;exact g.one _ (lA _ h l)
 | cons j γ ih =>
  intro l o;have:=lap_wh g (fun r=>W r j) (bg (fun r=>N*b r) l / N) l (cR W γ) (by
   intro p a q e;have v:=g.mul _ _ _ _ (u a j) (ih (p++q) (by rw [e] at o;simp at o ⊢;omega));refine g.mono _ _ _ ?_ v;have w:bg (fun r=>N*b r) l=N*(b a*bg (fun r=>N*b r) (p++q)):=by
    rw [e,jt,jt];simp only [bg];grind
   rw [w,Nat.mul_div_cancel_left _ t];exact zL)
  refine g.mono _ _ _ ?_ this;exact Nat.le_trans (Nat.mul_le_mul o zL) (Nat.mul_div_le _ _)
def fm (W:Nat->Nat->Rat):List Nat->(Nat->Rat)->Prop
 | [],R=>∀ j,R j=0
 | r :: ρ,R=>∃ c S,fm W ρ S/\∀ j,R j=c*W r j+S j
def jV (W:Nat->Nat->Rat) {R:Nat->Rat} (h:∀ j,R j=R' j) (e:fm W ρ R):fm W ρ R':=by
 have:R=R':=funext h;rw [<- this];exact e
def mY (W:Nat->Nat->Rat) (a b:Rat):∀ (ρ:List Nat) (R R':Nat->Rat),fm W ρ R->fm W ρ R'->fm W ρ (fun j=>a*R j+b*R' j):=by
 intro ρ;induction ρ with
 | nil=>intro R R' h o j;simp only [];rw [h j,o j,cZ,cZ,cd]
 | cons r ρ ih =>
  rintro R R' ⟨c,S,hS,e⟩ ⟨p,q,g,t⟩;refine ⟨a*c+b*p,_,ih S q hS g,fun j=>?_⟩;simp only [];rw [e j,t j];simp only [mA,rL];grind
def sN (W:Nat->Nat->Rat):∀ (ρ:List Nat),fm W ρ (fun _=>0):=by
 intro ρ;induction ρ with
 | nil=>intro j;rfl
 | cons r ρ ih=>exact ⟨0,_,ih,fun j=>by simp only [];rw [iR,cd]⟩
def iE (W:Nat->Nat->Rat) (a:Rat) {R:Nat->Rat} (h:fm W ρ R):fm W ρ (fun j=>a*R j) :=
 jV W (fun j=>by rw [cZ,cd]) (mY W a 0 ρ R (fun _=>0) h (sN W ρ))
def wR (W:Nat->Nat->Rat) {R:Nat->Rat} (h:fm W ρ R) (e:fm W ρ R'):fm W ρ (fun j=>R j+R' j) :=
 jV W (fun j=>by rw [jq,jq]) (mY W 1 1 ρ R R' h e)
def sM (W:Nat->Nat->Rat) (r:Nat) {R:Nat->Rat} (h:fm W ρ R):fm W (r :: ρ) R :=
 ⟨0,R,h,fun j=>by rw [iR,lS]⟩
def wS (W:Nat->Nat->Rat) (r:Nat) (ρ:List Nat) (c:Rat) (h:fm W ρ S):fm W (r :: ρ) (fun j=>c*W r j+S j) :=
 ⟨c,S,h,fun _=>rfl⟩
def FH (W:Nat->Nat->Rat):∀ (ρ:List Nat) (f:List Nat->Rat),fm W ρ (fun j=>gT (fun r=>W r j) f ρ):=by
 intro ρ;induction ρ with
 | nil=>intro f j;rfl
 | cons a ρ ih =>
  intro f;refine ⟨f ρ,_,iE W (-1) (ih (fun e=>f (a :: e))),fun j=>?_⟩;simp only [gT];rw [oG,jq,mK]
def Ind (W:Nat->Nat->Rat) (ρ γ:List Nat):Prop:=∀ S,fm W ρ S->(∀ c∈γ,S c=0)->∀ j,S j=0
def zA (W:Nat->Nat->Rat):Ind W [] []:=fun _ h _ j=>h j
def tV (W:Nat->Nat->Rat) {γ:List Nat} {R:Nat->Rat} (q:Ind W ρ γ) (hd:d=s*cR W γ ρ)
  (hR:∀ j,R j=d*W i j+S j) (hS:fm W ρ S) (h0:∀ c∈γ,R c=0):∀ j,R j=s*cR W (j :: γ) (i :: ρ):=by
 intro j;have g:∀ j,s*cR W (j :: γ) (i :: ρ)=d*W i j + -(s*gT (fun r=>W r j) (fun e=>cR W γ (i :: e)) ρ):=by
  intro j;show s*(W i j*cR W γ ρ + -(gT (fun r=>W r j) (fun e=>cR W γ (i :: e)) ρ))=_
  rw [mA,pE,hd];congr 1
  grind
 have h:=q (fun j=>S j+s*gT (fun r=>W r j) (fun e=>cR W γ (i :: e)) ρ) (wR W hS (iE W s (FH W ρ _))) (by
  intro c hc;have o:=h0 c hc;rw [hR c] at o;have p:=g c;rw [oN W c γ hc,cZ] at p;have t:=iB o;have u:s*gT (fun r=>W r c) (fun e=>cR W γ (i :: e)) ρ=d*W i c:=(lh p.symm).symm;rw [t,u,El]) j
 rw [hR j,g j];congr 1
 rw [xD] at h;exact iB h
def vj (W:Nat->Nat->Rat) {γ:List Nat} {R:Nat->Rat} (y:Ind W ρ γ) (hd:d≠0)
  (hR:∀ j,R j=d*W i j+S j) (hS:fm W ρ S) (h0:∀ c∈γ,R c=0) (hc:R c≠0):Ind W (i :: ρ) (c :: γ):=by
 rintro B ⟨e,C,p,w⟩ x;have q:∀ j,B j=e*(1 / d)*R j:=by
  intro j;have t:=y (fun j=>C j + -(e*(1 / d))*S j) (wR W p (iE W _ hS)) (by
   intro g hg;have h:=x g (List.mem_cons_of_mem _ hg);have u:=h0 g hg;rw [w g] at h;rw [hR g] at u;have z:=iB h;have A:=iB u;rw [z,A,oG,pE,jN];have:e*(1 / d)*(d*W i g)=e*W i g:=by
    calc e*(1 / d)*(d*W i g)=e*(1 / d*d)*W i g:=by grind
     _=e*W i g:=by rw [iy hd,sV]
   rw [this,El]) j
  rw [xD] at t;have v:=iB t;rw [oG,jN] at v;rw [w j,hR j,mA,v];congr 1
  calc e*W i j=e*(1 / d*d)*W i j:=by rw [iy hd,sV]
   _=e*(1 / d)*(d*W i j):=by grind
 have o:e*(1 / d)=0:=by
  have h:=x c (List.mem_cons_self ..);rw [q c,mK] at h;exact iS hc h
 intro j;rw [q j,o,iR]
def Ft (W:Nat->Nat->Rat) {p:Rat} {R g:Nat->Rat} {i':Nat} {e:Rat} (l:Rat) (hd:d≠0)
  (hR:∀ j,R j=e*W i j+S j) (hS:fm W ρ S) (hR':∀ j,R' j=d*W i' j+g j) (hS':fm W ρ g) :
  ∃ T,fm W (i :: ρ) T/\∀ j,(p*R' j-l*R j) / d=p*W i' j+T j:=by
 have h:=wS W i ρ e hS;have o:=mY W (p*(1 / d)) (-(l*(1 / d))) (i :: ρ) g (fun j=>e*W i j+S j) (sM W i hS') h;refine ⟨_,o,fun j=>?_⟩;rw [Dp _ hd,subE,hR' j,<- hR j,rL,oG,oG,mA,rL];have q:p*(d*W i' j)*(1 / d)=p*W i' j:=by
  calc p*(d*W i' j)*(1 / d)=p*(1 / d*d)*W i' j:=by grind
   _=p*W i' j:=by rw [iy hd,sV]
 have t:p*g j*(1 / d)=p*(1 / d)*g j:=by grind
 have u:l*R j*(1 / d)=l*(1 / d)*R j:=by grind
 rw [q,t,u,uC]
def cY:Nat->(Nat->Rat)->(Nat->Rat)->Rat
 | 0,_,_=>0
 | n+1,x,R=>cY n x R+R n*x n
def tw (x:Nat->Rat) (a b:Rat) (R R':Nat->Rat):∀ n,cY n x (fun j=>a*R j+b*R' j)=a*cY n x R+b*cY n x R':=by
 intro n;induction n with
 | zero=>simp only [cY];rw [cZ,cZ,cd]
 | succ n ih=>simp only [cY];rw [ih];simp only [mA,rL];grind
def Bi (x e R R':Nat->Rat):∀ n,(∀ j,j<n->R j*x j=R' j*e j)->cY n x R=cY n e R':=by
 intro n;induction n with
 | zero=>intro _;rfl
 | succ n ih=>intro h;simp only [cY];rw [ih (fun j g=>h j O),h n O]
def mC (x R:Nat->Rat):∀ n,(∀ j,j<n->R j*x j=0)->cY n x R=0:=by
 intro n;induction n with
 | zero=>intro _;rfl
 | succ n ih=>intro h;simp only [cY];rw [ih (fun j e=>h j O),h n O,cd]
def mB (x:Nat->Rat) (c:Rat) (R S:Nat->Rat) (n:Nat):cY n x (fun j=>c*R j+S j)=c*cY n x R+cY n x S:=by
 have:=tw x c 1 R S n;rw [jq] at this;rw [<- this];congr 1
 funext j
 rw [jq]
def mX (W:Nat->Nat->Rat) (n:Nat) (x:Nat->Rat):∀ (ρ:List Nat) (S:Nat->Rat),fm W ρ S->(∀ r∈ρ,cY n x (W r)=0)->cY n x S=0:=by
 intro ρ;induction ρ with
 | nil =>
  intro S h _;exact mC x S n (fun j _=>by rw [h j,iR])
 | cons r ρ ih =>
  rintro S ⟨c,o,g,e⟩ h;have:S=fun j=>c*W r j+o j:=funext e
  rw [this,mB,h r (List.mem_cons_self ..),ih o g (fun q p=>h q (List.mem_cons_of_mem _ p)),cZ,cd]
open Nums
def cB (f:Nat->Rat):List Nat->Rat
 | []=>0
 | a :: l=>f a+cB f l
def xe (f:Nat->Rat):∀ l l':List Nat,cB f (l++l')=cB f l+cB f l':=by
 intro l l';induction l with
 | nil=>exact (lS _).symm
 | cons a l ih=>simp only [List.cons_append,cB];rw [ih,uC]
def nL (f:Nat->Rat):∀ l:List Nat,(∀ j∈l,f j=0)->cB f l=0:=by
 intro l;induction l with
 | nil=>intro _;rfl
 | cons a l ih=>intro h;simp only [cB];rw [h a (List.mem_cons_self ..),ih (fun j e=>h j (List.mem_cons_of_mem _ e)),cd]
def qL (f g:Nat->Rat):∀ l:List Nat,(∀ j∈l,f j=g j)->cB f l=cB g l:=by
 intro l;induction l with
 | nil=>intro _;rfl
 | cons a l ih=>intro h;simp only [cB];rw [h a (List.mem_cons_self ..),ih (fun j e=>h j (List.mem_cons_of_mem _ e))]
def FP (c:Rat) (f:Nat->Rat):∀ l:List Nat,cB (fun j=>c*f j) l=c*cB f l:=by
 intro l;induction l with
 | nil=>exact (cZ c).symm
 | cons a l ih=>simp only [cB];rw [ih,mA]
def jW (x R:Nat->Rat):∀ n,cB (fun j=>R j*x j) (List.range n)=cY n x R:=by
 intro n;induction n with
 | zero=>rfl
 | succ n ih=>rw [List.range_succ,xe,ih];simp only [cB,cY];rw [cd]
def xf (f:Nat->Rat) (v:Nat):∀ (l:List Nat) (i:Nat),i<l.length->cB f (l.set i v)+f (l.getD i 0)=cB f l+f v:=by
 intro l;induction l with
 | nil=>intro i h;simp at h
 | cons a l ih =>
  intro i h;cases i with
  | zero=>simp only [List.set_cons_zero,cB,List.getD_cons_zero];grind
  | succ i =>
   simp only [List.set_cons_succ,cB,List.getD_cons_succ];have:=ih i (by simpa using h);rw [uC,this,uC]
def sE (f:Nat->Nat) (v:Nat):∀ (l:List Nat) (i:Nat),i<l.length->bg f (l.set i v)*f (l.getD i 0)=bg f l*f v:=by
 intro l;induction l with
 | nil=>intro i h;simp at h
 | cons a l ih =>
  intro i h;cases i with
  | zero=>simp only [List.set_cons_zero,bg,List.getD_cons_zero];grind
  | succ i =>
   simp only [List.set_cons_succ,bg,List.getD_cons_succ];have:=ih i (by simpa using h);rw [Nat.mul_assoc,this,Nat.mul_assoc]
def dH (l:List Nat) (i j:Nat):List Nat:=(l.set i (l.getD j 0)).set j (l.getD i 0)
def aP (a b i:Nat):Nat:=if i=b then a else if i=a then b else i
def ik (l:List Nat) (i j:Nat):(dH l i j).length=l.length:=by simp [dH]
def cI (l:List Nat) (a b i:Nat) (ha:a<l.length) (hb:b<l.length):(dH l a b).getD i 0=l.getD (aP a b i) 0:=by
 unfold dH aP;simp only [zW,List.getElem?_set,List.length_set];by_cases h:b=i
 ·subst h;simp [hb]
 ·have g:i≠b:=fun e=>h e.symm
  by_cases j:a=i
  ·subst j;simp [h,g,ha]
  ·have o:i≠a:=fun e=>j e.symm
   simp [h,g,j,o]
def dr {a b m:Nat} (ha:a<m) (hb:b<m) (hi:i<m):aP a b i<m:=by
 unfold aP;split
 ·exact ha
 ·split<;>assumption
def xg {a b:Nat} (ha:k<=a) (hb:k<=b) (hi:k<=i):k<=aP a b i:=by
 unfold aP;split
 ·exact ha
 ·split<;>assumption
def lF {a b:Nat} (ha:k<=a) (hb:k<=b) (hi:i<k):aP a b i=i:=by
 unfold aP;rw [if_neg O,if_neg O]
def eZ (a b i:Nat):aP a b (aP a b i)=i:=by
 unfold aP;by_cases g:i=b
 ·subst g;by_cases e:a=i
  ·subst e;simp
  ·simp [e]
 ·by_cases e:i=a
  ·subst e;simp [g]
  ·simp [g,e]
def dp (l:List Nat) (i:Nat) (h:i<l.length):l.getD i 0∈l:=by
 rw [zW,zX h];exact List.getElem_mem h
def fy {v:Nat} (h:v∈l):∃ i,i<l.length/\l.getD i 0=v:=by
 obtain ⟨i,hi,e⟩:=List.mem_iff_getElem.1 h;exact ⟨i,hi,by rw [zW,zX hi];exact e⟩
def lG (l:List Nat) (a b v:Nat) (ha:a<l.length) (hb:b<l.length):v∈dH l a b↔v∈l:=by
 constructor
 ·intro h;obtain ⟨i,hi,e⟩:=fy h;rw [cI l a b i ha hb] at e;rw [ik] at hi;rw [<- e];exact dp l _ (dr ha hb hi)
 ·intro h;obtain ⟨i,hi,e⟩:=fy h;have g:=dp (dH l a b) (aP a b i) (by rw [ik];exact dr ha hb hi);rw [cI l a b _ ha hb,eZ,e] at g;exact g
def Ct (f:Nat->Rat) (l:List Nat) (a b:Nat) (ha:a<l.length) (hb:b<l.length):cB f (dH l a b)=cB f l:=by
 have g:=xf f (l.getD b 0) l a ha;have e:=xf f (l.getD a 0) (l.set a (l.getD b 0)) b (by simpa using hb);have j:(l.set a (l.getD b 0)).getD b 0=l.getD b 0:=by
  by_cases h:a=b
  ·subst h;rw [zW,List.getElem?_set];simp [ha]
  ·rw [zW,List.getElem?_set,if_neg h,<- zW]
 rw [j] at e;show cB f ((l.set a (l.getD b 0)).set b (l.getD a 0))=_
 apply canc (a:=f (l.getD b 0)+f (l.getD a 0))
 calc f (l.getD b 0)+f (l.getD a 0)+cB f ((l.set a (l.getD b 0)).set b (l.getD a 0))
   = (cB f ((l.set a (l.getD b 0)).set b (l.getD a 0))+f (l.getD b 0))+f (l.getD a 0):=by grind
  _=(cB f (l.set a (l.getD b 0))+f (l.getD a 0))+f (l.getD a 0):=by rw [e]
  _=(cB f l+f (l.getD b 0))+f (l.getD a 0):=by rw [g]
  _=f (l.getD b 0)+f (l.getD a 0)+cB f l:=by grind
def qN (f:Nat->Nat) (e:∀ r,1<=f r) (l:List Nat) (a b:Nat) (ha:a<l.length) (hb:b<l.length):bg f (dH l a b)=bg f l:=by
 have j:=sE f (l.getD b 0) l a ha;have g:=sE f (l.getD a 0) (l.set a (l.getD b 0)) b (by simpa using hb);have o:(l.set a (l.getD b 0)).getD b 0=l.getD b 0:=by
  by_cases h:a=b
  ·subst h;rw [zW,List.getElem?_set];simp [ha]
  ·rw [zW,List.getElem?_set,if_neg h,<- zW]
 rw [o] at g;show bg f ((l.set a (l.getD b 0)).set b (l.getD a 0))=_
 have p:0<f (l.getD b 0)*f (l.getD a 0):=Nat.mul_pos (e _) (e _);apply Nat.eq_of_mul_eq_mul_left p
 calc f (l.getD b 0)*f (l.getD a 0)*bg f ((l.set a (l.getD b 0)).set b (l.getD a 0))
   = (bg f ((l.set a (l.getD b 0)).set b (l.getD a 0))*f (l.getD b 0))*f (l.getD a 0):=by grind
  _=(bg f (l.set a (l.getD b 0))*f (l.getD a 0))*f (l.getD a 0):=by rw [g]
  _=(bg f l*f (l.getD b 0))*f (l.getD a 0):=by rw [j]
  _=f (l.getD b 0)*f (l.getD a 0)*bg f l:=by grind
def de (l:List Nat) (a b k:Nat) (ha:k<=a) (hb:k<=b):(dH l a b).take k=l.take k:=by
 unfold dH;rw [List.take_set_of_le O,List.take_set_of_le O]
def cO (l:List Nat) (k:Nat) (h:k<l.length):(l.take (k+1)).reverse=l.getD k 0 :: (l.take k).reverse:=by
 rw [List.take_add_one,zX h,zW,zX h];simp
def Left (W:Nat->Nat->Rat) (ρ γ:List Nat) (d:Rat) (i:Nat) (R:Nat->Rat):Prop :=
 ∃ S,fm W ρ S/\(∀ j,R j=d*W i j+S j)/\∀ c∈γ,R c=0
def DoneR (W:Nat->Nat->Rat) (ρ γ:List Nat) (c i:Nat) (R:Nat->Rat):Prop :=
 ∃ e S,e≠0/\fm W ρ S/\(∀ j,R j=e*W i j+S j)/\(∀ c∈γ,R c=0)/\R c≠0
structure St (W:Nat->Nat->Rat) (m done:Nat) (perm order:List Nat) (R:Nat->Nat->Rat) (d s:Rat):Prop where
 pl:perm.length=m
 pm:∀ r,r<m->r∈perm
 pb:∀ r∈perm,r<m
 pp:∀ c:Nat->Nat,(∀ r,1<=c r)->bg c perm=bg c (List.range m)
 ol:order.length=m
 om:∀ j,j<m->j∈order
 ob:∀ j∈order,j<m
 oi:∀ i k,i<m->k<m->order.getD i 0=order.getD k 0->i=k
 os:∀ f:Nat->Rat,cB f order=cB f (List.range m)
 le:done<=m
 ind:Ind W (perm.take done).reverse (order.take done).reverse
 dn:d≠0
 dd:d=s*cR W (order.take done).reverse (perm.take done).reverse
 sg:s=1∨s = -1
 todo:∀ i,done<=i->i<m->Left W (perm.take done).reverse (order.take done).reverse d (perm.getD i 0) (R i)
 fin:∀ t,t<done->DoneR W (perm.take t).reverse (order.take t).reverse (order.getD t 0) (perm.getD t 0) (R t)
def jR (m i:Nat) (h:i<m):(List.range m).getD i 0=i:=by
 rw [zW,List.getElem?_range h];rfl
def FL (W:Nat->Nat->Rat) (m:Nat):St W m 0 (List.range m) (List.range m) W 1 1 where
 pl:=List.length_range
 pm:=fun r h=>List.mem_range.2 h
 pb:=fun r h=>List.mem_range.1 h
 pp:=fun _ _=>rfl
 ol:=List.length_range
 om:=fun r h=>List.mem_range.2 h
 ob:=fun r h=>List.mem_range.1 h
 oi:=fun i k hi g e=>by rw [jR m i hi,jR m k g] at e;exact e
 os:=fun _=>rfl
 le:=Nat.zero_le _
 ind:=by simpa using zA W
 dn:=EC
 dd:=by simp only [List.take_zero,List.reverse_nil,cR];rw [jq]
 sg:=.inl rfl
 todo:=fun i _ h=>⟨fun _=>0,sN W _,fun j=>by rw [jR m i h,jq,cd],Z⟩
 fin:=fun t h=>O
def st_swap {m:Nat} (h:St W m done perm order R d s)
  {a b:Nat} (hd:done<m) (ha:done<=a) (ha2:a<m) (hb:done<=b) (hb2:b<m) :
  St W m done (dH perm done a) (dH order done b) (fun i=>R (aP done a i)) d s:=by
 have o:done<perm.length:=by rw [h.pl];exact hd
 have p:a<perm.length:=by rw [h.pl];exact ha2
 have g:done<order.length:=by rw [h.ol];exact hd
 have j:b<order.length:=by rw [h.ol];exact hb2
 constructor
 ·rw [ik];exact h.pl
 ·intro r q;exact (lG perm done a r o p).2 (h.pm r q)
 ·intro r q;exact h.pb r ((lG perm done a r o p).1 q)
 ·intro c hc;rw [qN c hc perm done a o p];exact h.pp c hc
 ·rw [ik];exact h.ol
 ·intro r q;exact (lG order done b r g j).2 (h.om r q)
 ·intro r q;exact h.ob r ((lG order done b r g j).1 q)
 ·intro i k hi x e;rw [cI _ _ _ _ g j,cI _ _ _ _ g j] at e;have w:=h.oi _ _ (dr hd hb2 hi) (dr hd hb2 x) e;rw [<- eZ done b i,w,eZ]
 ·intro f;rw [Ct f order done b g j];exact h.os f
 ·exact h.le
 ·rw [de _ _ _ _ zL ha,de _ _ _ _ zL hb];exact h.ind
 ·exact h.dn
 ·rw [de _ _ _ _ zL ha,de _ _ _ _ zL hb];exact h.dd
 ·exact h.sg
 ·intro i hi u;rw [de _ _ _ _ zL ha,de _ _ _ _ zL hb,cI _ _ _ _ o p];exact h.todo _ (xg zL ha hi) (dr hd ha2 u)
 ·intro t v;rw [de _ _ _ _ O O,de _ _ _ _ O O,cI _ _ _ _ o p,cI _ _ _ _ g j,
   lF zL ha v,lF zL hb v]
  exact h.fin t v
def st_step {m:Nat} {R':Nat->Nat->Rat} {u p:Rat} (h:St W m done perm order R d s)
  (hd:done<m) (hu:u=1∨u = -1) (hlow:∀ t,t<done->∀ j,R' t j=R t j)
  (hpiv:∀ j,R' done j=u*R done j) (hp:p=R' done (order.getD done 0)) (hn:p≠0)
  (hrest:∀ i,done<i->i<m->∀ j,R' i j=(p*R i j-R i (order.getD done 0)*R' done j) / d) :
  St W m (done+1) perm order R' p (u*s):=by
 obtain ⟨S,hS,E,F⟩:=h.todo done zL hd;have g:done<perm.length:=by rw [h.pl];exact hd
 have o:done<order.length:=by rw [h.ol];exact hd
 have C:u≠0:=by rcases hu with e | e<;>rw [e];exact EC;exact Em EC
 have D:R done (order.getD done 0)≠0:=by
  intro e;apply hn;rw [hp,hpiv,e,cZ]
 have y:∀ j,R' done j=u*d*W (perm.getD done 0) j+u*S j:=by
  intro j;rw [hpiv,E,mA,mulA]
 have z:fm W (perm.take done).reverse (fun j=>u*S j):=iE W u hS;have A:∀ c∈(order.take done).reverse,R' done c=0:=by
  intro c hc;rw [hpiv,F c hc,cZ]
 constructor
 ·exact h.pl
 ·exact h.pm
 ·exact h.pb
 ·exact h.pp
 ·exact h.ol
 ·exact h.om
 ·exact h.ob
 ·exact h.oi
 ·exact h.os
 ·exact hd
 ·rw [cO _ _ g,cO _ _ o];exact vj W h.ind h.dn E hS F D
 ·exact hn
 ·rw [cO _ _ g,cO _ _ o,hp,hpiv,tV W h.ind h.dd E hS F (order.getD done 0),mulA]
 ·rcases hu with e | e<;>rcases h.sg with B | B <;> rw [e,B]
  ·left;exact jq 1
  ·right;exact jq _
  ·right;exact sV _
  ·left;rw [oG,jq,jN]
 ·intro i hi q;rw [cO _ _ g,cO _ _ o];obtain ⟨I,v,w,x⟩:=h.todo i O q;obtain ⟨T,J,K⟩:=Ft W (p:=p) (i:=perm.getD done 0) (i':=perm.getD i 0) (R i (order.getD done 0)) h.dn y z w v;refine ⟨T,J,fun j=>?_,fun c hc=>?_⟩
  ·rw [hrest i hi q j,K j]
  ·rw [hrest i hi q c];rcases List.mem_cons.1 hc with e | e
   ·subst e;rw [<- hp,mK p,subE,pt,xw h.dn]
   ·rw [x c e,A c e,cZ,cZ,subE,iN,cd,xw h.dn]
 ·intro t L;by_cases e:t=done
  ·subst e;exact ⟨u*d,_,iA C h.dn,z,y,A,by rw [<- hp];exact hn⟩
  ·obtain ⟨B,I,G,v,w,x,H⟩:=h.fin t O;refine ⟨B,I,G,v,fun j=>?_,fun c hc=>?_,?_⟩
   ·rw [hlow t O j];exact w j
   ·rw [hlow t O c];exact x c hc
   ·rw [hlow t O];exact H
def oF (W:Nat->Nat->Rat) (m:Nat) (x:Nat->Rat):Prop:=x m = -1/\∀ r,r<m->cY (m+1) x (W r)=0
def ue {m:Nat} (h:St W m done perm order R d s) (x:Nat->Rat) :
  (∀ r,r<m->cY (m+1) x (W r)=0)↔∀ i,i<m->cY (m+1) x (R i)=0:=by
 have p:∀ t,t<m->perm.getD t 0<m:=fun t ht=>h.pb _ (dp perm t (by rw [h.pl];exact ht))
 have g:∀ k,∀ r∈(perm.take k).reverse,∃ t,t<k/\t<m/\perm.getD t 0=r:=by
  intro k r j;rw [List.mem_reverse] at j;obtain ⟨i,hi,e⟩:=fy j;rw [List.length_take] at hi;refine ⟨i,O,by rw [<- h.pl];omega,?_⟩;rw [<- e,zW,zW,List.getElem?_take,if_pos O]
 constructor
 ·intro y i hi;have u:∀ k (S:Nat->Rat),fm W (perm.take k).reverse S->cY (m+1) x S=0:=fun k S hS =>
   mX W (m+1) x _ S hS (fun r j=>by obtain ⟨t,_,ht,e⟩:=g k r j;rw [<- e];exact y _ (p t ht))
  by_cases hd:i<done
  ·obtain ⟨e,S,_,hS,hR,_⟩:=h.fin i hd;rw [funext hR,mB,y _ (p i hi),u i S hS,cZ,cd]
  ·obtain ⟨S,hS,hR,_⟩:=h.todo i O hi;rw [funext hR,mB,y _ (p i hi),u done S hS,cZ,cd]
 ·intro hR;have o:∀ t,t<done->cY (m+1) x (W (perm.getD t 0))=0:=by
   intro t;induction t using Nat.strongRecOn with
   | _ t ih =>
    intro ht;obtain ⟨e,S,B,hS,z,_⟩:=h.fin t ht;have v:=hR t (by have:=h.le;omega);rw [funext z,mB,mX W (m+1) x _ S hS (fun r j=>by
     obtain ⟨q,A,_,e⟩:=g t r j;rw [<- e];exact ih q A O),cd] at v
    exact iS B v
  have w:∀ t,t<m->cY (m+1) x (W (perm.getD t 0))=0:=by
   intro t ht;by_cases hd:t<done
   ·exact o t hd
   ·obtain ⟨S,hS,z,_⟩:=h.todo t O ht;have v:=hR t ht;rw [funext z,mB,mX W (m+1) x _ S hS (fun r j=>by
     obtain ⟨q,A,_,e⟩:=g done r j;rw [<- e];exact o q A),cd] at v
    exact iS h.dn v
  intro r j;obtain ⟨i,hi,e⟩:=fy (h.pm r j);rw [<- e];exact w i (by rw [<- h.pl];exact hi)
open Nums
def wO (g:uB Wh) (j:s=1∨s = -1) {b:Nat} {x:Rat} (h:Wh b x):Wh b (s*x):=by
 rcases j with e | e<;>rw [e]
 ·rw [jq];exact h
 ·rw [oG,jq];exact g.neg _ _ h
def dS (m:Nat) (b:Nat->Nat):Nat:=bg (fun r=>m*b r) (List.range m)
def sC (c:Nat->Nat) (hc:∀ r,1<=c r) {v:Nat} : ∀ l:List Nat,v∈l->c v<=bg c l:=by
 intro l;induction l with
 | nil=>intro h;simp at h
 | cons a l ih =>
  intro h;simp only [bg];rcases List.mem_cons.1 h with e | e
  ·rw [e];exact Nat.le_mul_of_pos_right _ (lA c hc l)
  ·exact Nat.le_trans (ih e) (Nat.le_mul_of_pos_left _ (hc a))
def lB (c:Nat->Nat):∀ l:List Nat,bg c l.reverse=bg c l:=by
 intro l;induction l with
 | nil=>rfl
 | cons a l ih=>rw [List.reverse_cons,jt,ih];simp only [bg];rw [Nat.mul_one,Nat.mul_comm]
def qr (c:Nat->Nat) (hc:∀ r,1<=c r) (l:List Nat) (k:Nat):bg c (l.take k)<=bg c l:=by
 conv=>rhs;rw [<- List.take_append_drop k l]
 rw [jt];exact Nat.le_mul_of_pos_right _ (lA c hc _)
def sD (c:Nat->Nat) (hc:∀ r,1<=c r) (l:List Nat) (k i:Nat) (hi:k<=i) (e:i<l.length):bg c (l.getD i 0 :: (l.take k).reverse)<=bg c l:=by
 conv=>rhs;rw [<- List.take_append_drop k l]
 rw [jt];simp only [bg];rw [lB,Nat.mul_comm];apply Nat.mul_le_mul zL;apply sC c hc;have:=dp (l.drop k) (i-k) (by rw [List.length_drop];omega);rw [zW,List.getElem?_drop,<- zW] at this;rw [show k+(i-k)=i by omega] at this;exact this
def st_wh (e:uB Wh) {m:Nat} {b:Nat->Nat}
  (h:St W m done perm order R d s) (hb:∀ r,1<=b r) (hB:∀ r j,Wh (b r) (W r j)) (i:Nat) (hi:done<=i) (hi2:i<m) (j:Nat):Wh (dS m b) (R i j):=by
 obtain ⟨S,hS,o,p⟩:=h.todo i hi hi2;rw [tV W h.ind h.dd o hS p j];apply wO e h.sg;have hc:∀ r,1<=m*b r:=fun r=>Nat.mul_pos O (hb r)
 have g:(perm.getD i 0 :: (perm.take done).reverse).length<=m:=by
  simp only [List.length_cons,List.length_reverse,List.length_take];omega
 have:=pW e W b hb hB m O (j :: (order.take done).reverse) _ g;refine e.mono _ _ _ ?_ this;unfold dS;rw [<- h.pp _ hc];exact sD _ hc perm done i hi (by rw [h.pl];exact hi2)
def st_wh_d (e:uB Wh) {m:Nat} {b:Nat->Nat}
  (h:St W m done perm order R d s) (hm:0<m) (hb:∀ r,1<=b r) (hB:∀ r j,Wh (b r) (W r j)):Wh (dS m b) d:=by
 rw [h.dd];apply wO e h.sg;have hc:∀ r,1<=m*b r:=fun r=>Nat.mul_pos hm (hb r)
 have g:(perm.take done).reverse.length<=m:=by
  simp only [List.length_reverse,List.length_take];have:=h.le;omega
 have:=pW e W b hb hB m hm (order.take done).reverse _ g;refine e.mono _ _ _ ?_ this;unfold dS;rw [<- h.pp _ hc,lB];exact qr _ hc perm done
def rk {v:Nat} (h:v∈l.take k):∃ t,t<k/\t<l.length/\l.getD t 0=v:=by
 obtain ⟨i,hi,e⟩:=fy h;rw [List.length_take] at hi;refine ⟨i,O,O,?_⟩;rw [<- e,zW,zW,List.getElem?_take,if_pos O]
def iU {t:Nat} (h:t<k) (e:t<l.length):l.getD t 0∈l.take k:=by
 have:=dp (l.take k) t (by rw [List.length_take];omega);rw [zW,List.getElem?_take,if_pos h,<- zW] at this;exact this
def qM (f:Nat->Rat):∀ (l:List Nat) (t:Nat),t<l.length->cB f l=cB f (l.take t)+(f (l.getD t 0)+cB f (l.drop (t+1))):=by
 intro l;induction l with
 | nil=>intro t h;simp at h
 | cons a l ih =>
  intro t h;cases t with
  | zero=>simp only [List.take_zero,List.getD_cons_zero,cB,List.drop_succ_cons,List.drop_zero];rw [lS]
  | succ t =>
   simp only [List.take_succ_cons,List.getD_cons_succ,cB,List.drop_succ_cons];rw [ih t (by simpa using h),uC]
def upd (x:Nat->Rat) (c:Nat) (v:Rat):Nat->Rat:=fun j=>if j=c then v else x j
def dot_upd (x R:Nat->Rat) (c:Nat) (v:Rat):∀ n,c<n->cY n (upd x c v) R=cY n x R+R c*(v + -(x c)):=by
 intro n;induction n with
 | zero=>intro h;omega
 | succ n ih =>
  intro h;simp only [cY];by_cases e:c=n
  ·subst e;have o:cY c (upd x c v) R=cY c x R:=Bi _ _ _ _ c (fun j p=>by simp only [upd];rw [if_neg O]);have g:upd x c v c=v:=by simp [upd]
   rw [o,g,mA,pE]
   calc cY c x R+R c*v=cY c x R+(R c*x c + -(R c*x c))+R c*v:=by rw [pt,cd]
    _=cY c x R+R c*x c+(R c*v + -(R c*x c)):=by grind
  ·have g:upd x c v n=x n:=by simp only [upd];rw [if_neg O]
   rw [ih O,g];grind
def AE {m:Nat} (h:St W m done perm order R d s) (g:Nat->Rat) :
  ∃ x:Nat->Rat,(∀ j,j∉order.take done->x j=g j)/\∀ t,t<done->cY (m+1) x (R t)=0:=by
 have o:∀ k,k<=done->∃ x:Nat->Rat,(∀ j,j∉order.take done->x j=g j)/\∀ t,done-k<=t->t<done->cY (m+1) x (R t)=0:=by
  intro k;induction k with
  | zero=>intro _;exact ⟨g,fun _ _=>rfl,fun t D v=>O⟩
  | succ k ih =>
   intro F;obtain ⟨x,q,u⟩:=ih O;have w:done-(k+1)<done:=O
   have E:=h.le;obtain ⟨e,S,_,_,_,_,hn⟩:=h.fin (done-(k+1)) w;have z:=h.ol;have hc:order.getD (done-(k+1)) 0<m:=h.ob _ (dp order _ O);refine ⟨upd x (order.getD (done-(k+1)) 0) (x (order.getD (done-(k+1)) 0) + -(cY (m+1) x (R (done-(k+1))) / R (done-(k+1)) (order.getD (done-(k+1)) 0))),fun j y=>?_,fun t D v=>?_⟩
   ·have:j≠order.getD (done-(k+1)) 0:=by
     intro e;apply y;rw [e];exact iU w O
    simp only [upd];rw [if_neg this];exact q j y
   ·rw [dot_upd _ _ _ _ (m+1) O];by_cases p:t=done-(k+1)
    ·subst p;have A:x (order.getD (done-(k+1)) 0) + -(cY (m+1) x (R (done-(k+1))) / R (done-(k+1)) (order.getD (done-(k+1)) 0)) + -(x (order.getD (done-(k+1)) 0))
       = -(cY (m+1) x (R (done-(k+1))) / R (done-(k+1)) (order.getD (done-(k+1)) 0)):=by
      calc x (order.getD (done-(k+1)) 0) + -(cY (m+1) x (R (done-(k+1))) / R (done-(k+1)) (order.getD (done-(k+1)) 0)) + -(x (order.getD (done-(k+1)) 0))
        = -(cY (m+1) x (R (done-(k+1))) / R (done-(k+1)) (order.getD (done-(k+1)) 0))+(x (order.getD (done-(k+1)) 0) + -(x (order.getD (done-(k+1)) 0))):=by grind
       _=_:=by rw [pt,cd]
     rw [A,pE,mK,Bf _ _ hn,pt]
    ·obtain ⟨_,_,_,_,_,C,_⟩:=h.fin t v;have B:=C (order.getD (done-(k+1)) 0) (by rw [List.mem_reverse];exact iU O O);rw [B,iR,cd];exact u t O v
 obtain ⟨x,q,u⟩:=o done zL;exact ⟨x,q,fun t p=>u t O p⟩
def wW {m:Nat} (h:St W m done perm order R d s)
  (hz:∀ i,done<=i->i<m->∀ k,done<=k->k<m->R i (order.getD k 0)=0) (i:Nat) (hi:done<=i) (hi2:i<m) (j:Nat) (hj:j<m):R i j=0:=by
 obtain ⟨k,g,e⟩:=fy (h.om j hj);rw [h.ol] at g;rw [<- e];by_cases hd:k<done
 ·obtain ⟨S,_,_,o⟩:=h.todo i hi hi2;exact o _ (by rw [List.mem_reverse];exact iU hd (by rw [h.ol];exact g))
 ·exact hz i hi hi2 k O g
def st_none {m:Nat} (h:St W m done perm order R d s)
  (hz:∀ i,done<=i->i<m->∀ k,done<=k->k<m->R i (order.getD k 0)=0) {i:Nat} (hi:done<=i) (hi2:i<m) (hn:R i m≠0):¬ ∃ x,oF W m x:=by
 rintro ⟨x,g,o⟩;have e:=(ue h x).1 o i hi2;simp only [cY] at e;rw [mC x (R i) m (fun j p=>by rw [wW h hz i hi hi2 j p,iR]),lS,g,pE,sV] at e;exact Em hn e
def st_many {m:Nat} (h:St W m done perm order R d s) (hd:done<m)
  (hz:∀ i,done<=i->i<m->∀ k,done<=k->k<m->R i (order.getD k 0)=0) (hn:∀ i,done<=i->i<m->R i m=0) :
  ∃ x y:Nat->Rat,oF W m x/\oF W m y/\∃ j,j<m/\x j≠y j:=by
 have w:=h.ol;have g:∀ v:Rat,∃ x:Nat->Rat,oF W m x/\x (order.getD done 0)=v:=by
  intro v;obtain ⟨x,p,A⟩:=AE h (fun j=>if j=m then -1 else v);have o:m∉order.take done:=fun o=>by
   have:=h.ob m (List.mem_of_mem_take o);omega
  have z:order.getD done 0∉order.take done:=fun o=>by
   obtain ⟨t,E,B,e⟩:=rk o;have:=h.oi t done O hd e;omega
  have hlt:order.getD done 0<m:=h.ob _ (dp order _ O);refine ⟨x,⟨?_,(ue h x).2 (fun i hi=>?_)⟩,?_⟩
  ·rw [p m o,if_pos rfl]
  ·by_cases q:i<done
   ·exact A i q
   ·apply mC;intro j D;by_cases u:j=m
    ·rw [u,hn i O hi,iR]
    ·rw [wW h hz i O hi j O,iR]
  ·rw [p _ z,if_neg O]
 obtain ⟨x,p,ex⟩:=g 0;obtain ⟨y,hy,C⟩:=g 1;refine ⟨x,y,p,hy,order.getD done 0,h.ob _ (dp order _ O),?_⟩;rw [ex,C];exact fun e=>EC e.symm
def rY {u v:Nat->Rat} : ∀ (l:List Nat) (f:List Nat->Rat),(∀ r∈l,u r=v r)->gT u f l=gT v f l:=by
 intro l;induction l with
 | nil=>intro _ _;rfl
 | cons a l ih =>
  intro f h;simp only [gT];rw [h a (List.mem_cons_self ..),ih _ (fun r e=>h r (List.mem_cons_of_mem _ e))]
def D5 (a:Rat) (u v:Nat->Rat):∀ (l:List Nat) (f:List Nat->Rat),gT (fun r=>a*u r+v r) f l=a*gT u f l+gT v f l:=by
 intro l;induction l with
 | nil=>intro f;simp only [gT];rw [cZ,cd]
 | cons r l ih =>
  intro f;simp only [gT];rw [ih];simp only [mA,rL,yu,pE];grind
def rZ:∀ (l:List Nat) (f:List Nat->Rat),gT (fun _=>(0:Rat)) f l=0:=by
 intro l;induction l with
 | nil=>intro f;rfl
 | cons r l ih=>intro f;simp only [gT];rw [ih,iR,iN,cd]
def zk (W:Nat->Nat->Rat) (x:Nat->Rat) (γ l:List Nat):∀ o:List Nat,
  gT (fun r=>cB (fun j=>W r j*x j) o) (cR W γ) l=cB (fun j=>x j*cR W (j :: γ) l) o:=by
 intro o;induction o with
 | nil=>exact rZ l _
 | cons a o ih =>
  simp only [cB];rw [<- ih];show _=x a*gT (fun r=>W r a) (cR W γ) l+_
  rw [<- D5];congr 1
  funext r
  rw [mK]
def Co (o:uB Wh) {m:Nat} {b:Nat->Nat}
  (h:St W m m perm order R d s) (hb:∀ r,1<=b r) (hB:∀ r j,Wh (b r) (W r j)) {y:Nat->Rat} (hy:oF W m y) (t:Nat) (ht:t<m) :
  Wh (dS m b) (d*y (order.getD t 0)):=by
 have z:=h.ol;have A:=h.pl;have B:order.take m=order:=zT O;have C:perm.take m=perm:=zT O;have p:=h.dd;rw [B,C] at p;have q:∀ r∈perm.reverse,W r m=cB (fun j=>W r j*y j) order:=by
  intro r x;rw [List.mem_reverse] at x;have v:=hy.2 r (h.pb r x);simp only [cY] at v;rw [hy.1,pE,sV] at v;rw [h.os,jW];exact (lh v).symm
 have g:order.reverse=(order.drop (t+1)).reverse++order.getD t 0 :: (order.take t).reverse:=by
  have e:order=order.take t++order.getD t 0 :: order.drop (t+1):=by
   rw [zW,zX O];simp
  conv=>lhs;rw [e]
  simp
 have D:cR W (m :: ((order.drop (t+1)).reverse++(order.take t).reverse)) perm.reverse
   = y (order.getD t 0)*cR W (order.getD t 0 :: ((order.drop (t+1)).reverse++(order.take t).reverse)) perm.reverse:=by
  show gT (fun r=>W r m) _ _=_
  rw [rY perm.reverse _ q,zk,qM _ order t O];rw [nL _ (order.take t) (fun j w=>by rw [oN W j _ (by simp [w]),cZ]),
   nL _ (order.drop (t+1)) (fun j w=>by rw [oN W j _ (by simp [w]),cZ]),cd,lS]
 have u:Wh (dS m b) (cR W (m :: ((order.drop (t+1)).reverse++(order.take t).reverse)) perm.reverse):=by
  have hc:∀ r,1<=m*b r:=fun r=>Nat.mul_pos O (hb r)
  have:=pW o W b hb hB m O (m :: ((order.drop (t+1)).reverse++(order.take t).reverse)) perm.reverse (by rw [List.length_reverse];omega);refine o.mono _ _ _ ?_ this;unfold dS;rw [<- h.pp _ hc,lB];exact zL
 have E:d*y (order.getD t 0)=s*cR W (m :: ((order.drop (t+1)).reverse++(order.take t).reverse)) perm.reverse
   ∨ d*y (order.getD t 0) = -(s*cR W (m :: ((order.drop (t+1)).reverse++(order.take t).reverse)) perm.reverse):=by
  rw [D,p,g];rcases rI W (order.getD t 0) (order.take t).reverse (order.drop (t+1)).reverse perm.reverse with e | e
  ·left;rw [e];grind
  ·right;rw [e,pE,oG];congr 1;grind
 rcases E with e | e<;>rw [e]
 ·exact wO o h.sg u
 ·exact o.neg _ _ (wO o h.sg u)
def st_full (F:uB Wh) {m:Nat} {b:Nat->Nat}
  (h:St W m m perm order R d s) (hb:∀ r,1<=b r) (hB:∀ r j,Wh (b r) (W r j)) :
  ∃ y:Nat->Rat,oF W m y/\(∀ z,oF W m z->∀ j,j<m->z j=y j)/\(∀ t,t<m->Wh (dS m b) (d*y (order.getD t 0)))
   /\ ∀ t,t<m->R t (order.getD t 0)≠0/\d*R t m-cB (fun v=>R t v*(d*y v)) (order.drop (t+1))=d*y (order.getD t 0)*R t (order.getD t 0):=by
 have G:=h.ol;obtain ⟨y,hy,K⟩:=AE h (fun _=>-1);have A:m∉order.take m:=fun A=>by
  have:=h.ob m (List.mem_of_mem_take A);omega
 have hS:oF W m y:=⟨hy m A,(ue h y).2 (fun i hi=>K i hi)⟩;have g:∀ z,oF W m z->∀ t,t<m->R t m=R t (order.getD t 0)*z (order.getD t 0)+cB (fun v=>R t v*z v) (order.drop (t+1)):=by
  intro z x t o;have u:=(ue h z).1 x.2 t o;simp only [cY] at u;rw [x.1,pE,sV,<- jW,<- h.os,qM _ order t O] at u;obtain ⟨_,_,_,_,_,L,_⟩:=h.fin t o;rw [nL _ (order.take t) (fun j hj=>by rw [L j (by rw [List.mem_reverse];exact hj),iR]),lS] at u;exact (lh u).symm
 have p:∀ t,t<m->R t (order.getD t 0)≠0:=fun t o=>by
  obtain ⟨_,_,_,_,_,_,hn⟩:=h.fin t o;exact hn
 refine ⟨y,hS,?_,fun t o=>Co F h hb hB hS t o,fun t o=>⟨p t o,?_⟩⟩
 ·intro z x;have B:∀ k,k<=m->∀ t,m-k<=t->t<m->z (order.getD t 0)=y (order.getD t 0):=by
   intro k;induction k with
   | zero=>intro _ t u w;omega
   | succ k ih =>
    intro N t u w;by_cases e:m-k<=t
    ·exact ih O t e w
    ·have H:=g z x t w;have C:=g y hS t w;have D:cB (fun v=>R t v*z v) (order.drop (t+1))=cB (fun v=>R t v*y v) (order.drop (t+1)):=by
      apply qL;intro j hj;obtain ⟨q,M,E⟩:=fy hj;rw [List.length_drop] at M;rw [zW,List.getElem?_drop,<- zW] at E;rw [<- E,ih O (t+1+q) O O]
     rw [H,D,xD] at C;rw [xD (R t (order.getD t 0)*y _)] at C;have I:=canc C;have J:R t (order.getD t 0)*(z (order.getD t 0) + -(y (order.getD t 0)))=0:=by
      rw [mA,pE,I,pt]
     exact lh (iS (p t w) J)
  intro j hj;obtain ⟨t,o,e⟩:=fy (h.om j hj);rw [<- e];exact B m zL t O O
 ·have e:=g y hS t o;have D:cB (fun v=>R t v*(d*y v)) (order.drop (t+1))=d*cB (fun v=>R t v*y v) (order.drop (t+1)):=by
   rw [<- FP];apply qL;intro j _;grind
  rw [D,e,subE,mA,uC,pt,cd];grind
def gY (b:Nat) (q:Rat):Prop:=q.den=1/\rN q<=b
def pq {q:Rat} (h:q.den=1):q=((q.num:Int):Rat):=by
 apply Rat.ext
 ·rfl
 ·rw [h];rfl
def Gi (z:Int) (b:Nat) (h:z.natAbs<=b):gY b ((z:Int):Rat):=⟨rfl,h⟩
def bJ:uB gY where
 zero:=fun b=>⟨rfl,Nat.zero_le _⟩
 one:=fun b h=>⟨rfl,h⟩
 add:=by
  rintro b c x y ⟨h1,h2⟩ ⟨h3,h4⟩;rw [pq h1,pq h3];have e:((x.num:Int):Rat)+((y.num:Int):Rat)=((x.num+y.num:Int):Rat):=(Rat.intCast_add _ _).symm;show gY _ (((x.num:Int):Rat)+((y.num:Int):Rat))
  rw [e];refine Gi _ _ ?_;unfold rN at h2 h4;omega
 mul:=by
  rintro b c x y ⟨h1,h2⟩ ⟨h3,h4⟩;rw [pq h1,pq h3];have e:((x.num:Int):Rat)*((y.num:Int):Rat)=((x.num*y.num:Int):Rat):=(Rat.intCast_mul _ _).symm;show gY _ (((x.num:Int):Rat)*((y.num:Int):Rat))
  rw [e];refine Gi _ _ ?_;rw [Int.natAbs_mul];exact Nat.mul_le_mul h2 h4
 neg:=by
  rintro b x ⟨h1,h2⟩;refine ⟨h1,?_⟩;unfold rN;show (-x).num.natAbs<=b
  rw [Rat.neg_num,Int.natAbs_neg];exact h2
 mono:=fun b c x h h1=>⟨h1.1,Nat.le_trans h1.2 h⟩
def jf (R:Nat->Rat):Nat->Nat
 | 0=>1
 | i+1=>jf R i*(R i*(jf R i:Nat)).den
def cj (R:Nat->Rat) (i:Nat):Nat->Rat:=fun j=>R j*(jf R i:Nat)
def xH (R:Nat->Rat) (j:Nat):cj R 0 j=R j:=by
 unfold cj jf;show R j*((1:Nat):Rat)=R j
 rw [show ((1:Nat):Rat)=1 from rfl,Rat.mul_one]
def jD (R:Nat->Rat) (i j:Nat):cj R (i+1) j=cj R i j*(((cj R i i).den:Nat):Rat):=by
 unfold cj;show R j*((jf R i*(R i*(jf R i:Nat)).den:Nat):Rat)=_
 rw [Rat.natCast_mul,Rat.mul_assoc]
def pN (R:Nat->Rat):∀ i,0<jf R i:=by
 intro i;induction i with
 | zero=>exact Nat.one_pos
 | succ i ih=>exact Nat.mul_pos ih (Rat.den_pos _)
def nW (x:Rat) (k:Nat):(x*(k:Nat)).den∣x.den:=by
 have e:x*((k:Nat):Rat)=mkRat (x.num*(k:Nat)) x.den:=by
  rw [Rat.mul_def',Rat.num_natCast,Rat.den_natCast,Nat.mul_one]
 rw [e,Rat.den_mkRat,if_neg x.den_nz];exact Nat.div_dvd_of_dvd (Nat.gcd_dvd_left _ _)
def uQ {x:Rat} (k:Nat) (h:x.den=1):(x*(k:Nat)).den=1:=by
 have:=nW x k;rw [h] at this;exact Nat.dvd_one.1 this
def vN (x:Rat):(x*((x.den:Nat):Rat)).den=1:=by
 have e:x*((x.den:Nat):Rat)=mkRat (x.num*(x.den:Nat)) x.den:=by
  rw [Rat.mul_def',Rat.num_natCast,Rat.den_natCast,Nat.mul_one]
 rw [e,Rat.den_mkRat,if_neg x.den_nz];have hg:Nat.gcd x.den (x.num*(x.den:Nat)).natAbs=x.den:=by
  rw [Int.natAbs_mul,Int.natAbs_natCast];exact Nat.gcd_eq_left (Nat.dvd_mul_left _ _)
 first | (rw [hg];exact Nat.div_self x.den_pos) | (rw [Nat.gcd_comm,hg];exact Nat.div_self x.den_pos)
def nP (R:Nat->Rat):∀ i j,j<i->(cj R i j).den=1:=by
 intro i;induction i with
 | zero=>intro j h;omega
 | succ i ih =>
  intro j g;rw [jD];by_cases e:j=i
  ·rw [e];exact vN _
  ·exact uQ _ (ih j O)
def AW (R:Nat->Rat) (i j:Nat):(cj R i j).den∣(R j).den:=nW _ _
open Go.Lib
def tQ:Nat->Nat->List UInt8
 | 0,_=>[]
 | k+1,c=>tQ k (c / 10)++[UInt8.ofNat (48+c % 10)]
def pV {u:Nat} (h:¬ u<10):decDigits u=decDigits (u / 10)++[UInt8.ofNat (48+u % 10)]:=by rw [decDigits,dif_neg h]
def dec_pad (k q c:Nat) (e:0<q) (hc:c<10^k):decDigits (q*10^k+c)=decDigits q++tQ k c:=by
 induction k generalizing c with
 | zero =>
  have:c=0:=by simpa using hc
  subst this;simp [tQ]
 | succ k ih =>
  have h:0<10^k:=Nat.pow_pos zD;have j:10^k<=q*10^k:=Nat.le_mul_of_pos_left _ e;rw [Nat.pow_succ] at hc ⊢;have hd:(q*(10^k*10)+c) / 10=q*10^k+c / 10:=by
   rw [<- Nat.mul_assoc];omega
  have g:(q*(10^k*10)+c) % 10=c % 10:=by
   rw [<- Nat.mul_assoc];omega
  rw [pV (by rw [<- Nat.mul_assoc];omega),hd,g,ih (c / 10) O,tQ,List.append_assoc]
def BV (k:Nat):tQ k 0=List.replicate k 48:=by
 induction k with
 | zero=>rfl
 | succ k ih =>
  rw [tQ,show (0:Nat) / 10=0 from rfl,ih,List.replicate_succ'];rfl
def padD_eq (k c:Nat) (j:0<k) (hc:c<10^k):tQ k c=List.replicate (k-(decDigits c).length) 48++decDigits c:=by
 induction k generalizing c with
 | zero=>omega
 | succ k ih =>
  rw [Nat.pow_succ] at hc;by_cases h:c<10
  ·rw [tQ,show c / 10=0 by omega,BV,decDigits_one h,List.length_singleton,show k+1-1=k by omega,Nat.mod_eq_of_lt h]
  ·have e:0<k:=by
    rcases zP k with g | g
    ·subst g;simp at hc;omega
    ·exact g
   rw [tQ,ih (c / 10) e O,pV h,List.length_append,List.length_singleton,List.append_assoc,show k+1-((decDigits (c / 10)).length+1)=k-(decDigits (c / 10)).length by omega]
def me (j:0<k) (hc:c<10^k):nDigits c<=k:=by
 induction k generalizing c with
 | zero=>omega
 | succ k ih =>
  rw [Nat.pow_succ] at hc;by_cases h:c<10
  ·rw [nDigits_small h];omega
  ·rw [nDigits_big h];have e:0<k:=by
    rcases zP k with g | g
    ·subst g;simp at hc;omega
    ·exact g
   have:=ih e (show c / 10<10^k by omega);omega
def pT (e:0<k) (hc:c<10^k):(decDigits c).length<=k:=by
 rw [decDigits_length];exact me e hc
def dQ (B:Nat):List Nat->Nat
 | []=>0
 | c :: r=>c+B*dQ B r
def kv (B:Nat) (l:List Nat) (c:Nat):dQ B (l++[c])=dQ B l+B^l.length*c:=by
 induction l with
 | nil=>simp [dQ]
 | cons x r ih =>
  simp only [List.cons_append,dQ,ih,List.length_cons,Nat.pow_succ];rw [Nat.mul_add,<- Nat.mul_assoc,Nat.mul_comm B (B^r.length)];omega
def lY (l:List Nat) (i:Nat):List UInt8:=decDigits (dQ 1000000000 (l.drop i))
def nU (l:List Nat) (i:Nat) (hi:i+1<l.length) (hc:l[i]'O<1000000000) (e:0<dQ 1000000000 (l.drop (i+1))) :
  lY l i=lY l (i+1)++(List.replicate (9-(decDigits (l[i]'O)).length) 48++decDigits (l[i]'O)):=by
 unfold lY;rw [List.drop_eq_getElem_cons (by omega:i<l.length),dQ,<- padD_eq 9 _ zD hc,Nat.add_comm,Nat.mul_comm];exact dec_pad 9 _ _ e hc
def nT (l:List Nat) (i:Nat) (hi:i+1=l.length):lY l i=decDigits (l[i]'O):=by
 unfold lY;rw [List.drop_eq_getElem_cons (by omega:i<l.length),List.drop_of_length_le O];simp [dQ]
namespace Rk
def sm (f:Nat->Rat):Nat->Rat
 | 0=>0
 | n+1=>sm f n+f n
def mV {g:Nat->Rat} : ∀ n,(∀ k,k<n->f k=g k)->sm f n=sm g n
 | 0,_=>rfl
 | n+1,h=>by rw [sm,sm,mV n fun k e=>h k O,h n O]
def o9 : ∀ n,(∀ k,k<n->f k=0)->sm f n=0
 | 0,_=>rfl
 | n+1,h=>by rw [sm,o9 n fun k hk=>h k O,h n O];grind
def yR (f g:Nat->Rat) (a:Rat):∀ n,sm (fun k=>f k-a*g k) n=sm f n-a*sm g n
 | 0=>by
  show (0:Rat)=0-a*0
  grind
 | n+1=>by
  rw [sm,sm,sm,yR f g a n];grind
def yP (q:Nat):∀ n,q<n->(∀ k,k<n->k≠q->f k=0)->sm f n=f q
 | 0,h,_=>absurd h (Nat.not_lt_zero _)
 | n+1,h,hz=>by
  rw [sm];by_cases e:q=n
  ·subst e;rw [o9 q fun k j=>hz k O O];grind
  ·rw [yP q n O fun k j g=>hz k O g,hz n O O];grind
def uy (n:Nat) (m:Nat->Nat->Rat) (y:Nat->Rat):Prop:=∀ i,i<n->sm (fun k=>m i k*y k) n=m i n
def dN (m:Nat->Nat->Rat) (r p:Nat):Nat->Nat->Rat:=fun i=>if i=r then m p else if i=p then m r else m i
def dE (m:Nat->Nat->Rat) (r:Nat) (f:Nat->Rat):Nat->Nat->Rat:=fun i k=>if i=r then m i k else m i k-f i*m r k
def ans_swp {p:Nat} (j:r<n) (o:p<n) (m:Nat->Nat->Rat) (y:Nat->Rat):uy n (dN m r p) y↔uy n m y:=by
 constructor
 ·intro h i hi;by_cases e:i=p
  ·have:=h r j;unfold dN at this;rw [if_pos rfl] at this;rw [e];exact this
  ·by_cases g:i=r
   ·have:=h p o;unfold dN at this;by_cases q:p=r
    ·exact absurd (g.trans q.symm) e
    ·rw [if_neg q,if_pos rfl] at this;rw [g];exact this
   ·have:=h i hi;unfold dN at this;rw [if_neg g,if_neg e] at this;exact this
 ·intro h i hi;unfold dN;split
  ·exact h p o
  ·split
   ·exact h r j
   ·exact h i hi
def CV (o:r<n) (m:Nat->Nat->Rat) (f:Nat->Rat) (y:Nat->Rat):uy n (dE m r f) y↔uy n m y:=by
 have g:∀ i,i≠r->sm (fun k=>dE m r f i k*y k) n=sm (fun k=>m i k*y k) n-f i*sm (fun k=>m r k*y k) n:=fun i hi=>by
  rw [<- yR];refine mV n fun k _=>?_
  unfold dE;rw [if_neg hi];grind
 have own:∀ k,dE m r f r k=m r k:=fun k=>by unfold dE;rw [if_pos rfl]
 constructor
 ·intro h;have j:sm (fun k=>m r k*y k) n=m r n:=by
   have:=h r o;rw [own n,mV n fun k _=>by rw [own k]] at this;exact this
  intro i hi;by_cases e:i=r
  ·rw [e];exact j
  ·have:=h i hi;rw [g i e,j] at this;have p:dE m r f i n=m i n-f i*m r n:=by unfold dE;rw [if_neg e]
   rw [p] at this;grind
 ·intro h i hi;by_cases e:i=r
  ·rw [e,own n,mV n fun k _=>by rw [own k]];exact h r o
  ·rw [g i e,h i hi,h r o];unfold dE;rw [if_neg e]
structure xC (n:Nat) (m:Nat->Nat->Rat) (r c:Nat) (P:Nat->Nat):Prop where
 rn:r<=n
 cn:c<=n+1
 at_:∀ j,j<r->P j<c
 up:∀ i j,i<j->j<r->P i<P j
 lead:∀ j,j<r->m j (P j)≠0
 other:∀ j,j<r->∀ i,i<n->i≠j->m i (P j)=0
 low:∀ i,r<=i->i<n->∀ k,k<c->m i k=0
 left:∀ j,j<r->∀ k,k<P j->m j k=0
def Cg (n:Nat) (m:Nat->Nat->Rat) (P:Nat->Nat):xC n m 0 0 P :=
 ⟨O,O,fun _ h=>O,fun _ _ _ h=>O,fun _ h=>O,fun _ h=>O,fun _ _ _ _ h=>O,fun _ h=>O⟩
def Fp (h:xC n m r c P) (hc:c<=n) (p:∀ i,r<=i->i<n->m i c=0):xC n m r (c+1) P :=
 ⟨h.rn,O,fun j q=>Nat.lt_succ_of_lt (h.at_ j q),h.up,h.lead,h.other,fun i g o k t=>by
  by_cases e:k=c
  ·subst e;exact p i g o
  ·exact h.low i g o k O,h.left⟩
def Fq {p:Nat} (h:xC n m r c P) (hc:c<=n) (v:r<=p) (t:p<n) (z:m p c≠0) (f:Nat->Rat)
  (hf:∀ i,i<n->i≠r->f i*dN m r p r c=dN m r p i c):xC n (dE (dN m r p) r f) (r+1) (c+1) (fun j=>if j=r then c else P j):=by
 have A:r<n:=O
 have B:dN m r p r=m p:=by unfold dN;rw [if_pos rfl]
 have o:∀ i,i<r->dN m r p i=m i:=fun i hi=>by unfold dN;rw [if_neg O,if_neg O]
 have q:∀ i,r<=i->i<n->∀ k,k<c->dN m r p i k=0:=fun i F x k g=>by
  unfold dN;split
  ·exact h.low p v t k g
  ·split
   ·exact h.low r zL A k g
   ·exact h.low i F x k g
 have C:∀ k,dE (dN m r p) r f r k=m p k:=fun k=>by unfold dE;rw [if_pos rfl,B]
 have lo:∀ i,i≠r->∀ k,dE (dN m r p) r f i k=dN m r p i k-f i*m p k:=fun i hi k=>by unfold dE;rw [if_neg hi,B]
 have w:∀ i,i≠r->∀ k,k<c->dE (dN m r p) r f i k=dN m r p i k:=fun i hi k g=>by
  rw [lo i hi,h.low p v t k g];grind
 have lc:∀ i,i<n->i≠r->dE (dN m r p) r f i c=0:=fun i hi G=>by
  rw [lo i G];have:=hf i hi G;rw [B] at this;rw [this];grind
 refine ⟨O,O,fun j y=>?_,fun i j D y=>?_,fun j y=>?_,fun j y i hi u=>?_,fun i F x k g=>?_,fun j y k g=>?_⟩
 ·try dsimp only
  split
  ·omega
  ·exact Nat.lt_succ_of_lt (h.at_ j O)
 ·try dsimp only
  rw [if_neg (show ¬ i=r by omega)];by_cases e:j=r
  ·rw [if_pos e];exact h.at_ i O
  ·rw [if_neg e];exact h.up i j D O
 ·try dsimp only
  by_cases e:j=r
  ·rw [if_pos e,e,C];exact z
  ·rw [if_neg e,w j e _ (h.at_ j O),o j O];exact h.lead j O
 ·try dsimp only
  by_cases e:j=r
  ·rw [if_pos e];exact lc i hi O
  ·rw [if_neg e];by_cases E:i=r
   ·rw [E,C];exact h.low p v t _ (h.at_ j O)
   ·rw [w i E _ (h.at_ j O)];by_cases hlt:i<r
    ·rw [o i hlt];exact h.other j O i hi u
    ·exact q i O hi _ (h.at_ j O)
 ·by_cases e:k=c
  ·rw [e];exact lc i x O
  ·rw [w i O k O];exact q i O x k O
 ·try dsimp only at g
  by_cases e:j=r
  ·rw [if_pos e] at g;rw [e,C];exact h.low p v t k g
  ·rw [if_neg e] at g;have:=h.at_ j O;rw [w j e k O,o j O];exact h.left j O k g
def Dy (h:xC n m r c P) (j:Nat) (e:j<r) (hP:P j=n) (y:Nat->Rat):¬ uy n m y:=by
 intro ha;have g:=ha j (Nat.lt_of_lt_of_le e h.rn);rw [o9 n fun k o=>by rw [h.left j e k O];grind] at g;have:=h.lead j e;rw [hP] at this;exact this g.symm
def Gg (h:xC n m r c P):∀ j,j<r->j<=P j
 | 0,_=>Nat.zero_le _
 | j+1,hj=>by
  have e:=Gg h j O;have g:=h.up j (j+1) O hj;omega
def Gh (h:xC n m n c P) (hn:∀ j,j<n->P j<n):∀ d j,j+d=n->j<n->P j=j:=by
 have g:∀ d j,j+d=n->0<d->P j+d<=n:=by
  intro d;induction d with
  | zero=>intro j _ h0;omega
  | succ d ih =>
   intro j e _;by_cases h0:d=0
   ·have:=hn j O;omega
   ·have o:=ih (j+1) O O;have p:=h.up j (j+1) O O;omega
 intro d j e hlt;have o:=g d j e O;have p:=Gg h j hlt;omega
def end_one (h:xC n m n c P) (hn:∀ j,j<n->P j<n) :
  uy n m (fun i=>m i n / m i i)/\∀ y,uy n m y->∀ i,i<n->y i=m i n / m i i:=by
 have o:∀ j,j<n->P j=j:=fun j u=>Gh h hn (n-j) j O u
 have hd:∀ i,i<n->m i i≠0:=fun i hi=>by have:=h.lead i hi;rw [o i hi] at this;exact this
 have q:∀ i k,i<n->k<n->k≠i->m i k=0:=fun i k hi g e=>by have:=h.other k g i hi (Ne.symm e);rw [o k g] at this;exact this
 have row:∀ (y:Nat->Rat) (i:Nat),i<n->sm (fun k=>m i k*y k) n=m i i*y i:=fun y i hi=>yP i n hi fun k g e=>by rw [q i k hi g e];grind
 refine ⟨fun i hi=>?_,fun y hy i hi=>?_⟩
 ·rw [row _ i hi];have:=hd i hi;rw [Rat.mul_comm];exact Rat.div_mul_cancel this
 ·have p:=hy i hi;rw [row y i hi] at p;have t:=hd i hi;rw [<- p,Rat.mul_comm];exact (Rat.mul_div_cancel t).symm
def q9 (m:Nat->Nat->Rat) (n r:Nat) (P:Nat->Nat) (g:Nat->Rat):Nat->Nat->Rat
 | 0,k=>g k
 | j+1,k=>if k=P j then (m j n-sm (fun q=>m j q*g q) n) / m j (P j) else q9 m n r P g j k
def mD {g:Nat->Rat} : ∀ j,(∀ i,i<j->P i≠k)->q9 m n r P g j k=g k
 | 0,_=>rfl
 | j+1,h=>by rw [q9,if_neg (fun e=>h j O e.symm),mD j fun i hi=>h i O]
def zv (h:xC n m r c P) (g:Nat->Rat) (i:Nat):∀ j,j<=r->i<j->q9 m n r P g j (P i)=(m i n-sm (fun q=>m i q*g q) n) / m i (P i)
 | 0,_,hi=>absurd hi (Nat.not_lt_zero _)
 | j+1,hj,hi=>by
  rw [q9];by_cases e:i=j
  ·subst e;rw [if_pos rfl]
  ·have:=h.up i j O O;rw [if_neg O];exact zv h g i j O O
def uV (h:xC n m r (n+1) P) (hn:∀ j,j<r->P j<n) (g:Nat->Rat) (hg:∀ j,j<r->g (P j)=0):uy n m (q9 m n r P g r):=by
 intro i hi;by_cases p:i<r
 ·have v:=h.lead i p;have e:sm (fun k=>m i k*q9 m n r P g r k) n=sm (fun k=>m i k*g k) n+m i (P i)*q9 m n r P g r (P i):=by
   have u:sm (fun k=>m i k*q9 m n r P g r k-1*(m i k*g k)) n=m i (P i)*q9 m n r P g r (P i)-1*(m i (P i)*g (P i)):=by
    refine yP (P i) n (hn i p) fun k w t=>?_
    by_cases o:∃ j,j<r/\P j=k
    ·obtain ⟨j,q,rfl⟩:=o;have:i≠j:=fun e=>t (by rw [e])
     rw [h.other j q i hi this];grind
    ·rw [mD r fun j q e=>o ⟨j,q,e⟩];grind
   rw [yR] at u;rw [hg i p] at u;grind
  rw [e,zv h g i r zL p,Rat.mul_comm,Rat.div_mul_cancel v];grind
 ·rw [o9 n fun k w=>by rw [h.low i O hi k O];grind,h.low i O hi n O]
def uY (h:xC n m r c P):∀ s,s<=r->∃ q,q<=s/\∀ j,j<s->P j≠q
 | 0,_=>⟨0,zL,fun j o=>O⟩
 | s+1,hs=>by
  obtain ⟨q,u,p⟩:=uY h s O;by_cases e:P s=q
  ·have t:=Gg h s O;refine ⟨s+1,zL,fun j o=>?_⟩;by_cases g:j=s
   ·rw [g];omega
   ·have:=h.up j s O O;omega
  ·exact ⟨q,O,fun j o=>by
    by_cases g:j=s
    ·rw [g];exact e
    ·exact p j O⟩
def end_two (h:xC n m r (n+1) P) (hn:∀ j,j<r->P j<n) (o:r<n):∃ y z q,uy n m y/\uy n m z/\q<n/\y q≠z q:=by
 obtain ⟨q,p,e⟩:=uY h r zL;refine ⟨_,_,q,uV h hn (fun _=>0) (fun _ _=>rfl),uV h hn (fun k=>if k=q then 1 else 0) (fun j g=>if_neg (e j g)),O,?_⟩;rw [mD r e,mD r e,if_pos rfl];decide
end Rk
namespace Rk
open Nums
def gP (P:Nat->Nat):Nat->List Nat
 | 0=>[]
 | r+1=>P r :: gP P r
def sw {Q:Nat->Nat} : ∀ r,(∀ j,j<r->P j=Q j)->gP P r=gP Q r
 | 0,_=>rfl
 | r+1,h=>by rw [gP,gP,h r O,sw r fun j e=>h j O]
def tR {x:Nat} : ∀ r,x∈gP P r->∃ j,j<r/\P j=x
 | 0,h=>by cases h
 | r+1,h=>by
  rcases List.mem_cons.1 h with e | e
  ·exact ⟨r,O,e.symm⟩
  ·obtain ⟨j,g,e⟩:=tR r e;exact ⟨j,O,e⟩
def Af {j:Nat} : ∀ r,j<r->P j∈gP P r
 | 0,h=>absurd h (Nat.not_lt_zero _)
 | r+1,h=>by
  by_cases e:j=r
  ·rw [e];exact List.mem_cons_self ..
  ·exact List.mem_cons_of_mem _ (Af r O)
def sA (P:Nat->Nat) (i:Nat):∀ r,i<r->∃ γ1,gP P r=γ1++P i :: gP P i/\∀ x∈γ1,∃ j,j<r/\i<j/\P j=x
 | 0,h=>absurd h (Nat.not_lt_zero _)
 | r+1,h=>by
  by_cases e:i=r
  ·exact ⟨[],by rw [e];rfl,fun x p=>by cases p⟩
  ·obtain ⟨g,q,t⟩:=sA P i r O;refine ⟨P r :: g,by rw [gP,q];rfl,fun x p=>?_⟩;rcases List.mem_cons.1 p with o | o
   ·exact ⟨r,O,O,o.symm⟩
   ·obtain ⟨j,w,u,v⟩:=t x o;exact ⟨j,O,u,v⟩
structure Gj (n:Nat) (W:Nat->Nat->Rat) (s:Nat->Rat) (m:Nat->Nat->Rat) (r c:Nat) (P:Nat->Nat) (perm:List Nat):Prop where
 red:xC n m r c P
 pl:perm.length=n
 pp:∀ c:Nat->Nat,(∀ r,1<=c r)->bg c perm=bg c (List.range n)
 rest:∀ i,r<=i->i<n->fm W (perm.take r).reverse (fun k=>s (perm.getD i 0)*m i k-W (perm.getD i 0) k)
 back:∀ x,(∀ i,i<r->cY (n+1) x (m i)=0)->∀ q∈(perm.take r).reverse,cY (n+1) x (W q)=0
 ind:Ind W (perm.take r).reverse (gP P r)
 dnz:∀ i,i<=r->cR W (gP P i) (perm.take i).reverse≠0
 led:∀ i,i<r->m i (P i)*(cR W (gP P i) (perm.take i).reverse*s (perm.getD i 0))=cR W (gP P (i+1)) (perm.take (i+1)).reverse
def gj_start {s:Nat->Rat} (P:Nat->Nat) (h:∀ i,i<n->∀ k,s i*m i k=W i k):Gj n W s m 0 0 P (List.range n) where
 red:=Cg n m P
 pl:=Z
 pp:=fun _ _=>rfl
 rest:=fun i _ hi j=>by
  rw [zW,zX (by simp;exact hi)];simp only [List.getElem_range,Option.getD_some];rw [h i hi];grind
 back:=fun _ _ q e=>by simp at e
 ind:=zA W
 dnz:=fun i hi=>by
  obtain rfl:i=0:=O
  exact EC
 led:=fun i hi=>O
def gj_skip {s:Nat->Rat} (h:Gj n W s m r c P perm) (hc:c<=n) (e:∀ i,r<=i->i<n->m i c=0):Gj n W s m r (c+1) P perm :=
 ⟨Fp h.red hc e,h.pl,h.pp,h.rest,h.back,h.ind,h.dnz,h.led⟩
def wL {s:Nat->Rat} (h:Gj n W s m r c P perm) (i:Nat) (hi:r<=i) (hn:i<n) (k:Nat) :
  cR W (gP P r) (perm.take r).reverse*s (perm.getD i 0)*m i k=cR W (k :: gP P r) (perm.getD i 0 :: (perm.take r).reverse):=by
 have:=tV W (ρ:=(perm.take r).reverse) (γ:=gP P r) (d:=cR W (gP P r) (perm.take r).reverse) (s:=1) (R:=fun k=>cR W (gP P r) (perm.take r).reverse*s (perm.getD i 0)*m i k) (i:=perm.getD i 0) h.ind (jq _).symm
  (fun j=>by
   show _=cR W (gP P r) (perm.take r).reverse*W (perm.getD i 0) j+cR W (gP P r) (perm.take r).reverse*(s (perm.getD i 0)*m i j-W (perm.getD i 0) j)
   grind) (iE W _ (h.rest i hi hn)) (fun c hc=>by
    obtain ⟨j,e,rfl⟩:=tR r hc;show _*m i (P j)=0
    rw [h.red.low i hi hn _ (h.red.at_ j e),cZ]) k
 rw [jq] at this;exact this
def FW {p:Nat} (g:r<l.length) (h:p<l.length):(dH l r p).getD r 0=l.getD p 0:=by
 rw [cI l r p r g h];unfold aP;split
 ·rename_i e;rw [e]
 ·rw [if_pos rfl]
def gj_step {s:Nat->Rat} (U:∀ q,s q≠0) {p:Nat} (h:Gj n W s m r c P perm) (hc:c<=n) (w:r<=p) (o:p<n) (F:m p c≠0) (f:Nat->Rat)
  (hf:∀ i,i<n->i≠r->f i*dN m r p r c=dN m r p i c):Gj n W s (dE (dN m r p) r f) (r+1) (c+1) (fun j=>if j=r then c else P j) (dH perm r p):=by
 have L:=h.pl;have M:r<n:=O
 have V:dN m r p r=m p:=by unfold dN;rw [if_pos rfl]
 have t:∀ i,i<=r->gP (fun j=>if j=r then c else P j) i=gP P i:=fun i hi=>sw i fun j hj=>if_neg O
 have B:gP (fun j=>if j=r then c else P j) (r+1)=c :: gP P r:=by rw [gP,t r zL,if_pos rfl]
 have G:∀ i,i<=r->(dH perm r p).take i=perm.take i:=fun i hi=>de perm r p i hi O
 have z:(dH perm r p).getD r 0=perm.getD p 0:=FW O O;have u:((dH perm r p).take (r+1)).reverse=perm.getD p 0 :: (perm.take r).reverse:=by
  rw [cO _ r (by rw [ik];omega),z,G r zL]
 have N:∀ i,i<r->(dH perm r p).getD i 0=perm.getD i 0:=fun i hi=>by
  rw [cI perm r p i O O,lF zL w hi]
 have Q:∀ i,i<n->s ((dH perm r p).getD i 0)=s (perm.getD (aP r p i) 0)/\(dH perm r p).getD i 0=perm.getD (aP r p i) 0:=fun i hi=>by
  rw [cI perm r p i O O];exact ⟨rfl,rfl⟩
 have T:∀ i,dN m r p i=m (aP r p i):=fun i=>by
  unfold dN aP;by_cases D:i=r
  ·by_cases v:i=p
   ·rw [if_pos D,if_pos v];congr 1
    omega
   ·rw [if_pos D,if_neg v,if_pos D]
  ·rw [if_neg D];by_cases v:i=p
   ·rw [if_pos v,if_pos v]
   ·rw [if_neg v,if_neg v,if_neg D]
 have X:∀ k,dE (dN m r p) r f r k=m p k:=fun k=>by unfold dE;rw [if_pos rfl,V]
 have lo:∀ i,i≠r->∀ k,dE (dN m r p) r f i k=dN m r p i k-f i*m p k:=fun i hi k=>by unfold dE;rw [if_neg hi,V]
 have H:=h.dnz r zL;have A:=wL h p w o c;have I:cR W (gP P r) (perm.take r).reverse*s (perm.getD p 0)*m p c≠0:=iA (iA H (U _)) F;have sp:fm W (perm.getD p 0 :: (perm.take r).reverse) (m p):=by
  have E:=iE W (1 / s (perm.getD p 0)) (h.rest p w o);have y:=wS W (perm.getD p 0) _ (1 / s (perm.getD p 0)) E;refine jV W (fun j=>?_) y;have J:=iy (U (perm.getD p 0));show 1 / s (perm.getD p 0)*W (perm.getD p 0) j+1 / s (perm.getD p 0)*(s (perm.getD p 0)*m p j-W (perm.getD p 0) j)=m p j
  calc _=(1 / s (perm.getD p 0)*s (perm.getD p 0))*m p j:=by grind
   _=m p j:=by rw [J,jq]
 refine ⟨Fq h.red hc w o F f hf,by rw [ik];exact L,fun c2 K=>?_,fun i E y=>?_,fun x hx=>?_,?_,fun i hi=>?_,fun i hi=>?_⟩
 ·rw [qN c2 K perm r p O O];exact h.pp c2 K
 ·rw [u];obtain ⟨D,v⟩:=Q i y;rw [v];have J:r<=aP r p i:=xg zL w O;have h4:aP r p i<n:=dr M o y;have h5:=sM W (perm.getD p 0) (h.rest _ J h4);have h6:=mY W 1 (-(s (perm.getD (aP r p i) 0)*f i)) _ _ _ h5 sp;refine jV W (fun j=>?_) h6;show 1*(s (perm.getD (aP r p i) 0)*m (aP r p i) j-W (perm.getD (aP r p i) 0) j) + -(s (perm.getD (aP r p i) 0)*f i)*m p j=s (perm.getD (aP r p i) 0)*dE (dN m r p) r f i j-W (perm.getD (aP r p i) 0) j
  rw [lo i O,T];grind
 ·have Y:cY (n+1) x (m p)=0:=by
   have:=hx r O;rw [show dE (dN m r p) r f r=m p from funext X] at this;exact this
  have E:∀ i,i<r->cY (n+1) x (m i)=0:=fun i hi=>by
   have y:=hx i O;have e:dE (dN m r p) r f i=fun k=>1*m i k + -(f i)*m p k:=by
    funext k
    rw [lo i O];unfold dN;rw [if_neg O,if_neg O];grind
   rw [e,tw,Y] at y;grind
  have y:=h.back x E;intro q hq;rw [u] at hq;rcases List.mem_cons.1 hq with e | e
  ·rw [e];have J:=mX W (n+1) x _ _ (h.rest p w o) y;have v:(fun k=>s (perm.getD p 0)*m p k-W (perm.getD p 0) k)=fun k=>s (perm.getD p 0)*m p k+(-1)*W (perm.getD p 0) k:=by
    funext k
    grind
   rw [v,tw,Y] at J;grind
  ·exact y q e
 ·rw [u,B];refine vj W (d:=cR W (gP P r) (perm.take r).reverse) (R:=fun k=>cR W (gP P r) (perm.take r).reverse*s (perm.getD p 0)*m p k) h.ind H (fun j=>?_) (iE W (cR W (gP P r) (perm.take r).reverse) (h.rest p w o)) (fun g hg=>?_) I
  ·show _=cR W (gP P r) (perm.take r).reverse*W (perm.getD p 0) j+cR W (gP P r) (perm.take r).reverse*(s (perm.getD p 0)*m p j-W (perm.getD p 0) j)
   grind
  ·obtain ⟨j,hj,rfl⟩:=tR r hg;show _*m p (P j)=0
   rw [h.red.low p w o _ (h.red.at_ j hj),cZ]
 ·by_cases e:i=r+1
  ·rw [e,u,B,<- A];exact I
  ·rw [t i O,G i O];exact h.dnz i O
 ·by_cases e:i=r
  ·subst e;rw [u,B,<- A,t i zL,G i zL,z];simp only [if_true];rw [X];grind
  ·have C:i<r:=O
   have E:=h.led i C;rw [t i O,t (i+1) O,G i O,G (i+1) O,N i C];try dsimp only
   rw [if_neg e,lo i e,h.red.low p w o _ (h.red.at_ i C)];unfold dN;rw [if_neg e,if_neg O,cZ];rw [<- E];grind
def tm (m:Nat->Nat->Rat) (P:Nat->Nat) (k:Nat):Nat->Nat->Rat
 | 0,q=>if q=k then -1 else 0
 | j+1,q=>if q=P j then m j k / m j (P j) else tm m P k j q
def kx {q:Nat} : ∀ j,(∀ i,i<j->P i≠q)->tm m P k j q=if q=k then -1 else 0
 | 0,_=>rfl
 | j+1,h=>by rw [tm,if_neg (fun e=>h j O e.symm),kx j fun i hi=>h i O]
def tn (h:xC n m r c P) (k i:Nat):∀ j,j<=r->i<j->tm m P k j (P i)=m i k / m i (P i)
 | 0,_,hi=>absurd hi (Nat.not_lt_zero _)
 | j+1,hj,hi=>by
  rw [tm];by_cases e:i=j
  ·subst e;rw [if_pos rfl]
  ·have:=h.up i j O O;rw [if_neg O];exact tn h k i j O O
def zr {x R:Nat->Rat} {a b:Nat} (p:a≠b):∀ n,a<n->b<n->(∀ j,j<n->j≠a->j≠b->R j*x j=0)->cY n x R=R a*x a+R b*x b:=by
 have one:∀ n (q:Nat),q<n->(∀ j,j<n->j≠q->R j*x j=0)->cY n x R=R q*x q:=by
  intro n;induction n with
  | zero=>intro q v;omega
  | succ n ih =>
   intro q v o;rw [cY];by_cases e:q=n
   ·rw [e,mC x R n fun j t=>o j O O,lS]
   ·rw [ih q O fun j t g=>o j O g,o n O O,cd]
 intro n;induction n with
 | zero=>intro h;omega
 | succ n ih =>
  intro ha hb o;rw [cY];by_cases e:b=n
  ·rw [e] at o p ⊢;rw [one n a O fun j t g=>o j O g O]
  ·by_cases u:a=n
   ·rw [u] at o p ⊢;rw [one n b O fun j t g=>o j O O g,xD]
   ·rw [ih O O fun j t w y=>o j O w y,o n O O O,cd]
def Dt {s:Nat->Rat} (h:Gj n W s m r c P perm) (i:Nat) (hi:i<r) (k:Nat) (L:k<=n) (hP:∀ j,j<r->P j≠k) :
  ∃ γ,m i k*cR W (P i :: γ) (perm.take r).reverse=m i (P i)*cR W (k :: γ) (perm.take r).reverse/\cR W (P i :: γ) (perm.take r).reverse≠0:=by
 obtain ⟨o,I,M⟩:=sA P i r hi;have u:=h.red;have A:∀ j,j<r->P j<n+1:=fun j z=>Nat.lt_of_lt_of_le (u.at_ j z) u.cn
 have w:=u.lead i hi;have C:cR W (P i :: (o++gP P i)) (perm.take r).reverse≠0:=by
  have p:=h.dnz r zL;rw [I] at p;rcases rI W (P i) (gP P i) o (perm.take r).reverse with e | e
  ·rw [e] at p;exact p
  ·intro e3;rw [e,e3] at p;exact p iN
 refine ⟨o++gP P i,?_,C⟩;have D:∀ j,j<r->cY (n+1) (tm m P k r) (m j)=0:=fun j z=>by
  rw [zr (a:=k) (b:=P j) (fun e=>hP j z e.symm) (n+1) O (A j z) fun q G p H=>?_]
  ·rw [kx r hP,if_pos rfl,tn u k j r zL z];have x:=Bf (m j k) (m j (P j)) (u.lead j z);rw [mK] at x;rw [x];grind
  ·by_cases g:∃ t,t<r/\P t=q
   ·obtain ⟨t,y,rfl⟩:=g;rw [u.other t y j (Nat.lt_of_lt_of_le z u.rn) (fun e=>H (by rw [e])),iR]
   ·rw [kx r fun t y e=>g ⟨t,y,e⟩,if_neg p,cZ]
 have J:=h.back _ D;have E:cB (fun j=>tm m P k r j*cR W (j :: (o++gP P i)) (perm.take r).reverse) (List.range (n+1))=0:=by
  rw [<- zk];rw [rY (v:=fun _=>0) _ _ fun q G=>by rw [jW];exact J q G];exact rZ _ _
 have e3:cB (fun j=>tm m P k r j*cR W (j :: (o++gP P i)) (perm.take r).reverse) (List.range (n+1))=cY (n+1) (fun j=>cR W (j :: (o++gP P i)) (perm.take r).reverse) (tm m P k r):=jW _ _ _;rw [e3,zr (a:=k) (b:=P i) (fun e=>hP i hi e.symm) (n+1) O (A i hi) fun q G p H=>?_,kx r hP,if_pos rfl,tn u k i r zL hi] at E
 ·have x:=Bf (m i k) (m i (P i)) w;have B:m i k / m i (P i)*cR W (P i :: (o++gP P i)) (perm.take r).reverse=cR W (k :: (o++gP P i)) (perm.take r).reverse:=by
   rw [oG,jq] at E;have:=iB E;rw [jN] at this;exact this
  rw [<- B]
  calc m i k*cR W (P i :: (o++gP P i)) (perm.take r).reverse=(m i k / m i (P i)*m i (P i))*cR W (P i :: (o++gP P i)) (perm.take r).reverse:=by rw [x]
   _=_:=by grind
 ·by_cases g:∃ t,t<r/\P t=q
  ·obtain ⟨t,y,rfl⟩:=g;have K:P t∈o++gP P i:=by
    have x:=Af (P:=P) r y;rw [I] at x;rcases List.mem_append.1 x with B | B
    ·exact List.mem_append.2 (.inl B)
    ·rcases List.mem_cons.1 B with F | F
     ·exact absurd F H
     ·exact List.mem_append.2 (.inr F)
   rw [oN W (P t) _ K,cZ]
  ·rw [kx r fun t y e=>g ⟨t,y,e⟩,if_neg p,iR]
end Rk
end Go.Proofs.YtbomdfhdocaagaaGreatDoor
