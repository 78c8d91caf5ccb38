/- Contracts. -/
import Derived.Test.YtbomdfhdocaagaaGreatDoorXPc
import Derived.Deep.RegionHeld3
import Derived.Test.YtbomdfhdocaagaaGreatDoorXPg
namespace Go.Proofs.YtbomdfhdocaagaaGreatDoor
open Go.RowKit
set_option linter.all false
set_option maxHeartbeats 8000000
set_option maxRecDepth 10000
variable {w w' wr W:World} {L n g d k:Nat} {v:Value} {xs ys:List Nat}
def BI (x y z u:Int):Int :=
 if u > (if z > (if y > x then y else x) then z else (if y > x then y else x)) then u else (if z > (if y > x then y else x) then z else (if y > x then y else x))
def FA {P:Program} (w:World) (a:Array TypeId) (t:TypeId) (k:IntKind) (x y z u:Int):(Builtin.max_ a t #[.int k x,.int k y,.int k z,.int k u]).run P w=.ok (.int k (BI x y z u)) w:=by
 simp [Builtin.max_,Builtin.max2,BI]
def max4_lt (x y z u B:Int):BI x y z u<B↔x<B/\y<B/\z<B/\u<B:=by
 unfold BI;repeat' split
 all_goals omega
def wi (q c:Int) (a:0<=q) (b:q<1073741824) (c1:-1073741824<c) (c2:c<1073741824):-1152921504606846976<q*c/\q*c<1152921504606846976:=by
 have e:q*c<=q*1073741823:=Int.mul_le_mul_of_nonneg_left O a;have f:q*(-1073741823)<=q*c:=Int.mul_le_mul_of_nonneg_left O a;omega
def lJ (w:World) (g:Nat) (a b c d:Int):Prop:=w.heap[g]? = some (.cells #[.int .i64 a,.int .i64 b,.int .i64 c,.int .i64 d] 215 (0,0))
def lJ.cells {a b c d:Int} (h:lJ w g a b c d):w.cell? ⟨g,0,none⟩=some (.int .i64 a)/\w.cell? ⟨g,1,none⟩=some (.int .i64 b)/\w.cell? ⟨g,2,none⟩=some (.int .i64 c)/\w.cell? ⟨g,3,none⟩=some (.int .i64 d)/\∀ i,w.frozen? ⟨g,i,none⟩=false:=by
 unfold lJ at h;refine ⟨?_,?_,?_,?_,fun i=>?_⟩<;>simp [World.cell?,World.frozen?,h]
def lJ.set {a b c d e b' f i:Int} (h:lJ w g a b c d):lJ ((((w.setCell ⟨g,0,none⟩ (.int .i64 e)).setCell ⟨g,1,none⟩ (.int .i64 b')).setCell ⟨g,2,none⟩ (.int .i64 f)).setCell ⟨g,3,none⟩ (.int .i64 i)) g e b' f i:=by
 unfold lJ at h ⊢;rw [heap_setCell_same _ g 3 _ _ _ (heap_setCell_same _ g 2 _ _ _ (heap_setCell_same _ g 1 _ _ _ (heap_setCell_same w g 0 _ _ _ h)))];simp
def lJ.other {a b c d:Int} (h:lJ w g a b c d) (e:g≠k) (x y z u:Value):lJ ((((w.setCell ⟨k,0,none⟩ x).setCell ⟨k,1,none⟩ y).setCell ⟨k,2,none⟩ z).setCell ⟨k,3,none⟩ u) g a b c d:=by
 unfold lJ at h ⊢;rw [heap_setCell_other _ _ _ _ e,heap_setCell_other _ _ _ _ e,heap_setCell_other _ _ _ _ e,heap_setCell_other _ _ _ _ e];exact h
def tE (h:w.grownBy wr none) (a:w.heap.size<=k) (x y z u:Value):w.grownBy ((((wr.setCell ⟨k,0,none⟩ x).setCell ⟨k,1,none⟩ y).setCell ⟨k,2,none⟩ z).setCell ⟨k,3,none⟩ u) none :=
 ah (ah (ah (ah h _ _ a) _ _ a) _ _ a) _ _ a
def pC (X Y a b c d:Int):Prop:=∃ P H N hi nx,iT X Y P H N a b c d hi nx
def StrR (w:World) (X Y P H N:Int) (hv nv:Value) (wr:World):Prop :=
 ∃ a b c d hi nx:Int,hv=.int .i64 hi/\nv=.int .i64 nx/\0<=nx/\iT X Y P H N a b c d hi nx/\lJ wr w.heap.size 0 0 0 0/\lJ wr (w.heap.size+1) a b c d/\w.grownBy wr none
def sY (w:World) (X Y:Int) (e:Ending) (w':World):Prop:=∃ a b c d:Int,e=.returned (.agg #[.int .i64 a,.int .i64 b,.int .i64 c,.int .i64 d])/\pC X Y a b c d/\w.grownBy w' none
def yS {X Y:Nat} (c:pw X k) (a:Y<=X) (i:4611686018427387904<=Y):63<=k/\X / 2^(k-62)<4611686018427387904/\Y / 2^(k-62)<=X / 2^(k-62):=by
 rcases c with ⟨h,_⟩ | ⟨j,l,f⟩
 ·omega
 ·have b:63<=k:=by
   rcases Nat.lt_or_ge k 63 with h | h
   ·have:=Nat.pow_le_pow_right (n:=2) zD (show k<=62 by omega);omega
   ·exact h
  refine ⟨b,?_,Nat.div_le_div_right a⟩;rw [Nat.div_lt_iff_lt_mul (Nat.two_pow_pos _)];have e:4611686018427387904*2^(k-62)=2^k:=by
   rw [show (4611686018427387904:Nat)=2^62 from by decide,<- Nat.pow_add,show 62+(k-62)=k from O]
  rw [e];exact f
def mZ (X low:Nat):(X:Int)=((X / 2^low:Nat):Int)*((2^low:Nat):Int)+((X % 2^low:Nat):Int)/\0<=((X % 2^low:Nat):Int)/\((X % 2^low:Nat):Int)<((2^low:Nat):Int):=by
 have a:=Nat.div_add_mod X (2^low);have b:=Nat.mod_lt X (Nat.two_pow_pos low);refine ⟨?_,O,O⟩;rw [<- Int.natCast_mul,<- Int.natCast_add];congr 1
 rw [Nat.mul_comm];exact a.symm
def wY (va vb:Value) (xs ys:List Nat) (w:World) (ha:Ws w va xs) (hb:Ws w vb ys) (tx:Tr xs) (s:ai ys<=ai xs) (hY:4611686018427387904<=ai ys) (hl:xs.length<=10000000000000) :
  Calls Tryz.prog 172 #[va,vb] w fun e w'=>sY w (ai xs:Nat) (ai ys:Nat) e w':=by
 obtain ⟨ao,ca,ea,hm,J,_⟩:=ha.open;obtain ⟨bo,cb,eb,ho,K,_⟩:=hb.open;have WA:=ab ha;have WB:=ab hb;have TX:=ab tx;have u:=ab s;have HY:=ab hY;subst ea eb;clear ha hb tx s hY hm J ho K;go_enter Tryz.func172,Tryz.ntmps172
 go_wp2_with fail;have Y:w.grownBy (w.alloc (Obj.cells #[Value.int .i64 0,Value.int .i64 0,Value.int .i64 0,Value.int .i64 0] 215)) none:=ag (ae _ _) _;refine (mx _ (ai xs) xs.length _ ⟨xs,WA.keep0 Y,TX,rfl,zL⟩ hl).mono ?_;rintro e w1 ⟨k,rfl,hk,hp,rfl⟩;obtain ⟨hr,kH,kN⟩:=yS hk u HY;obtain ⟨low,Q⟩:∃ low:Nat,(k:Int)-62=(low:Int):=⟨k-62,O⟩;have i:k-62=low:=O
 rw [i] at kH kN;have j:low<=400000000000000:=O
 obtain ⟨o,l⟩:=eX (ai xs / 2^low);obtain ⟨r,p⟩:=eX (ai ys / 2^low);have hy:o<4611686018427387904:=by rw [l];exact kH
 have he:r<=o:=by rw [l,p];exact kN
 obtain ⟨e1,e2,e3⟩:=mZ (ai xs) low;obtain ⟨f1,f2,f3⟩:=mZ (ai ys) low;have hP:(0:Int)<((2^low:Nat):Int):=by have:=Nat.two_pow_pos low;omega
 have x:((ai ys:Nat):Int)<=((ai xs:Nat):Int):=Int.ofNat_le.2 u;have F:(0:Int)<((ai ys:Nat):Int):=by have:=HY.out;omega
 rw [<- l] at e1;rw [<- p] at f1;obtain ⟨P,R⟩:∃ P:Int,P=((2^low:Nat):Int):=⟨_,rfl⟩;rw [<- R] at e1 e3 f1 f3 hP;have y:Hid (∀ {a b c d hi nx q:Int},iT (ai xs:Nat) (ai ys:Nat) P o r a b c d hi nx->nx+c≠0->nx+d≠0->q=(hi+a) / (nx+c)->q=(hi+b) / (nx+d)->(-1073741824<a-q*c/\a-q*c<1073741824)->(-1073741824<b-q*d/\b-q*d<1073741824) ->
   iT (ai xs:Nat) (ai ys:Nat) P o r c d (a-q*c) (b-q*d) nx (hi-q*nx)/\0<=hi-q*nx/\hi-q*nx<nx/\0<=q/\q*nx<=hi+1073741824):=by
  intro a b c d hi nx q h k1 k2 k3 k4 k5 k6;exact h.step hP e2 e3 f2 f3 e1 f1 x k1 k2 k3 k4 k5 k6
 have G:=ab (iT.start (P:=P) (H:=(o:Int)) (N:=(r:Int)) x F (Int.natCast_nonneg _) (Int.ofNat_le.2 he));have HH:=ab l;have HN:=ab p;have KH:=ab kH;have KN:=ab kN;clear kH kN hk hp hr i e1 e2 e3 f1 f2 f3 hP x F R l p;go_wp2_with fail;refine (iK _ xs low _ (WA.keep0 Y) KH j).mono ?_;rintro e w2 ⟨rfl,q2,rfl⟩;rw [<- HH];go_wp2_with fail;refine (iK _ ys low _ (WB.keep0 (ak Y _)) (Nat.lt_of_le_of_lt KN KH) j).mono ?_;rintro e w3 ⟨rfl,q3,rfl⟩;rw [<- HN];clear KH KN u HY WA WB TX HH HN Q Y;go_wp2;go_loopw [6,7] (fun hv nv wr=>Hid (StrR w (ai xs:Nat) (ai ys:Nat) P o r hv nv wr)) (fun _ nv _=>(intOf nv).toNat)
 case atStart =>
  refine ⟨1,0,0,1,o,r,rfl,rfl,Int.natCast_nonneg _,G,?_,?_,?_⟩
  ·show ((w.heap.push _).push _)[w.heap.size]? = _
   rw [Array.getElem?_push_lt Z,Array.getElem_push_eq]
  ·show ((w.heap.push _).push _)[w.heap.size+1]? = _
   have e:w.heap.size+1=(w.heap.push (Obj.cells #[Value.int .i64 0,Value.int .i64 0,Value.int .i64 0,Value.int .i64 0] 215)).size:=Z
   rw [e,Array.getElem?_push_size]
  ·exact ag (ak (ag (ae _ _) _) _) _
 case round =>
  obtain ⟨a,b,c,d,hi,nx,rfl,rfl,hs,hS,hR,hF,hG⟩:=hrel.out;have ha:=hS.ha;have hb:=hS.hb;have hc:=hS.hc;have hd:=hS.hd;have s:=hS.le;have hw:=hS.top;have z:=hS.ra;have A:=hS.rb;have hz:=hS.rc;have hA:=hS.rd;obtain ⟨s0,s1,s2,s3,S⟩:=hF.cells;obtain ⟨T,r1,r2,U,V⟩:=hR.cells;have hB:=S 0;have hE:=S 1;have hH:=S 2;have hI:=S 3;have hJ:=V 0;have hK:=V 1;have hL:=V 2;have hN:=V 3;have SS:=ab hS;have FF:=ab hF;have GG:=ab hG;have RR:=ab hR;have f:Hid (sY w (ai xs:Nat) (ai ys:Nat) (.returned (.agg #[.int .i64 a,.int .i64 b,.int .i64 c,.int .i64 d])) ((((wr.setCell ⟨w.heap.size,0,none⟩ (.int .i64 a)).setCell ⟨w.heap.size,1,none⟩ (.int .i64 b)).setCell ⟨w.heap.size,2,none⟩ (.int .i64 c)).setCell ⟨w.heap.size,3,none⟩ (.int .i64 d))) :=
   ⟨a,b,c,d,rfl,⟨P,o,r,hi,nx,hS⟩,tE hG zL _ _ _ _⟩
  have B:Hid (∀ n,sY w (ai xs:Nat) (ai ys:Nat) (.returned (.agg #[.int .i64 a,.int .i64 b,.int .i64 c,.int .i64 d])) (((((wr.drewN n).setCell ⟨w.heap.size,0,none⟩ (.int .i64 a)).setCell ⟨w.heap.size,1,none⟩ (.int .i64 b)).setCell ⟨w.heap.size,2,none⟩ (.int .i64 c)).setCell ⟨w.heap.size,3,none⟩ (.int .i64 d))) :=
   fun n=>⟨a,b,c,d,rfl,⟨P,o,r,hi,nx,hS⟩,tE (ak hG n) zL _ _ _ _⟩
  clear hS hF hG hR S V hrel G;by_cases k1:nx+c=0
  ·have b1:(nx+c != 0)=false:=by rw [bne_eq_false_iff_eq];exact k1
   clear k1;go_wp2;refine bodyPost_ret (v:=.agg #[.int .i64 a,.int .i64 b,.int .i64 c,.int .i64 d]) (by simp [results,Tryz.results172,go_sem,T,r1,r2,U]) rfl f
  ·have b1:(nx+c != 0)=true:=by rw [bne_iff_ne];exact k1
   by_cases k2:nx+d=0
   ·have b2:(nx+d != 0)=false:=by rw [bne_eq_false_iff_eq];exact k2
    clear k1 k2;go_wp2;refine bodyPost_ret (v:=.agg #[.int .i64 a,.int .i64 b,.int .i64 c,.int .i64 d]) (by simp [results,Tryz.results172,go_sem,T,r1,r2,U]) rfl f
   ·have b2:(nx+d != 0)=true:=by rw [bne_iff_ne];exact k2
    have p1:0<nx+c:=O
    have p2:0<nx+d:=O
    obtain ⟨q,X⟩:∃ q,(hi+a) / (nx+c)=q:=⟨_,rfl⟩;obtain ⟨E,m⟩:∃ q,(hi+b) / (nx+d)=q:=⟨_,rfl⟩;have t1:(hi+a).tdiv (nx+c)=q:=by rw [Int.tdiv_eq_ediv_of_nonneg z];exact X
    have t2:(hi+b).tdiv (nx+d)=E:=by rw [Int.tdiv_eq_ediv_of_nonneg A];exact m
    have q0:0<=q:=by rw [<- X];exact Int.ediv_nonneg z O
    have hQ:0<=E:=by rw [<- m];exact Int.ediv_nonneg A O
    have q1:q<=hi+a:=by rw [<- X];exact Int.ediv_le_self _ z
    have hT:E<=hi+b:=by rw [<- m];exact Int.ediv_le_self _ A
    have z1:(nx+c==0)=false:=zB k1;have z2:(nx+d==0)=false:=zB k2;have K1:=ab k1;have K2:=ab k2;have HQ:=ab X;have hf:=ab m;clear X m k1 k2;by_cases k3:1073741824<=q
    ·go_wp2;refine bodyPost_ret (v:=.agg #[.int .i64 a,.int .i64 b,.int .i64 c,.int .i64 d]) (by simp [results,Tryz.results172,go_sem,T,r1,r2,U]) rfl f
    ·have I:q<1073741824:=O
     by_cases k4:q=E
     ·have b4:(q != E)=false:=by rw [bne_eq_false_iff_eq];exact k4
      obtain ⟨m1,m2⟩:=wi q c q0 I hc.1 hc.2;obtain ⟨m3,m4⟩:=wi q d q0 I hd.1 hd.2;obtain ⟨C,hC⟩:∃ C,a-q*c=C:=⟨_,rfl⟩;obtain ⟨D,hD⟩:∃ D,b-q*d=D:=⟨_,rfl⟩;obtain ⟨M,hM⟩:∃ M,BI C (-C) D (-D)=M:=⟨_,rfl⟩;have hx:∀ (ts:Array TypeId) (t:TypeId) (w:World),(Builtin.max_ ts t #[.int .i64 C,.int .i64 (-C),.int .i64 D,.int .i64 (-D)]).run Tryz.prog w=.ok (.int .i64 M) w:=by
       intro ts t w;rw [<- hM];exact FA w ts t .i64 C (-C) D (-D)
      have hW:-1152921505680588800<C/\C<1152921505680588800:=O
      have hX:-1152921505680588800<D/\D<1152921505680588800:=O
      have hj:=ab k4;have HM:=ab hM;clear k4 hM;by_cases k5:1073741824<=M
      ·go_wp2;go_quiet (fail)
       go_wp2;refine bodyPost_ret (v:=.agg #[.int .i64 a,.int .i64 b,.int .i64 c,.int .i64 d]) (by simp [results,Tryz.results172,go_sem,T,r1,r2,U]) rfl (B _)
      ·have hlt:BI C (-C) D (-D)<1073741824:=by rw [HM];omega
       rw [max4_lt] at hlt;obtain ⟨n1,n2,n3,n4⟩:=hlt;obtain ⟨st,hu,kb,st3,kc⟩:=y.out SS K1 K2 HQ.symm (by rw [hj];exact hf.symm) (by rw [hC];omega) (by rw [hD];omega);rw [hC,hD] at st;have ka:0<=q*nx:=Int.mul_nonneg q0 hs;have ST:=ab st;clear st;go_wp2;go_quiet (fail)
       go_wp2;go_roundw
       case rel=>exact ⟨c,d,C,D,nx,hi-q*nx,rfl,rfl,hu,ST,lJ.other (w:=wr.drewN _) RR O _ _ _ _,lJ.set (w:=wr.drewN _) FF,tE (ak GG _) O _ _ _ _⟩
       case measure=>exact bH
     ·have b4:(q != E)=true:=by rw [bne_iff_ne];exact k4
      clear k4;go_wp2;refine bodyPost_ret (v:=.agg #[.int .i64 a,.int .i64 b,.int .i64 c,.int .i64 d]) (by simp [results,Tryz.results172,go_sem,T,r1,r2,U]) rfl f
def GcdR (w:World) (G L:Nat) (k:Nat) (av bv:Value) (wr:World):Prop :=
 ∃ xs ys:List Nat,Ws wr av xs/\Ws wr bv ys/\Tr xs/\Tr ys/\0<ai xs/\xs.length<=L/\ys.length<=L/\Nat.gcd (ai xs) (ai ys)=G/\w.grownBy wr none/\ai ys=k/\ai ys<=ai xs
def Cw {u v X Y:Int} (h:Int.gcd u v=Int.gcd X Y) (a:0<=u) (b:0<=v) (c:0<=X) (f:0<=Y):Nat.gcd u.toNat v.toNat=Nat.gcd X.toNat Y.toNat:=by
 have e:∀ z:Int,0<=z->z.natAbs=z.toNat:=fun z i=>O
 unfold Int.gcd at h;rw [e u a,e v b,e X c,e Y f] at h;exact h
def pC.gives {X Y:Nat} {a b c d:Int} (h:pC X Y a b c d) :
  (-1073741824<a/\a<1073741824)/\(-1073741824<b/\b<1073741824)/\(-1073741824<c/\c<1073741824)/\(-1073741824<d/\d<1073741824) /\
  0<=a*X+b*Y/\a*X+b*Y<=X/\0<=c*X+d*Y/\c*X+d*Y<=X/\0<(a*X+b*Y).toNat/\(c*X+d*Y).toNat<=(a*X+b*Y).toNat /\
  Nat.gcd (a*X+b*Y).toNat (c*X+d*Y).toNat=Nat.gcd X Y/\(b≠0->(c*X+d*Y).toNat<Y):=by
 obtain ⟨P,H,N,hi,f,h⟩:=h;have u0:=h.u0;have v0:=h.v0;have vu:=h.vu;have ux:=h.ux;refine ⟨h.ha,h.hb,h.hc,h.hd,O,ux,v0,O,O,O,?_,?_⟩
 ·have:=Cw h.g O v0 (Int.natCast_nonneg _) (Int.natCast_nonneg _);rw [this,Int.toNat_natCast,Int.toNat_natCast]
 ·intro hb;rcases h.bs with ⟨_,e,_⟩ | ⟨_,e⟩
  ·exact absurd e hb
  ·omega
def bits_le (h:pw n k) (a:k<=62):n<4611686018427387904:=by
 rcases h with ⟨h,_⟩ | ⟨_,_,h⟩
 ·omega
 ·have:=Nat.pow_le_pow_right (n:=2) zD a;omega
def bits_gt (h:pw n k) (a:62<k):4611686018427387904<=n:=by
 rcases h with ⟨_,h⟩ | ⟨_,h,_⟩
 ·omega
 ·have:=Nat.pow_le_pow_right (n:=2) zD (show 62<=k-1 by omega);omega
def Cy (n:Nat) (h:n<18446744073709551616):Sm [n % 4294967296,n / 4294967296]/\ai [n % 4294967296,n / 4294967296]=n:=by
 constructor
 ·exact Sm.cons O (Sm.cons O Sm.nil)
 ·simp only [ai];omega
def aT.shape (h:aT w v n L):∃ o l c,v=.slice o l c/\(l=0↔n=0)/\l<=c/\c<=maxLen:=by
 obtain ⟨xs,b,f,a,p⟩:=h;obtain ⟨o,c,rfl,i,j,_⟩:=b.open;refine ⟨o,_,c,rfl,?_,i,j⟩;constructor
 ·intro e;have:xs=[]:=List.eq_nil_of_length_eq_zero e;rw [this] at a;simp [ai] at a;omega
 ·intro e;rcases zP xs.length with h | h
  ·exact h
  ·have:=jz f (by intro e;rw [e] at h;simp at h);have m:0<4294967296^(xs.length-1):=Nat.pow_pos zD;omega
def cN (k:Nat):w.grownBy (w.drewN k) none:=ak (ae _ _) k
def GcdE (w:World) (G L:Nat) (e:Ending) (w':World):Prop:=∃ g,e=.returned g/\aT w' g G L/\w.grownBy w' none
def LastR (G:Nat) (hv lv:Value):Prop:=∃ h l:Nat,hv=.int .i64 (h:Nat)/\lv=.int .i64 (l:Nat)/\h<4611686018427387904/\l<4611686018427387904/\Nat.gcd h l=G
def ji (va vb:Value) (i j:List Nat) (w:World) (ha:Ws w va i) (hb:Ws w vb j) (z:Tr i) (A:Tr j) (B:0<ai i∨0<ai j) (L:Nat) (P:i.length<=L) (Q:j.length<=L) (hl:L<=8000000000000) :
  Calls Tryz.prog 133 #[va,vb] w fun e w'=>GcdE w (Nat.gcd (ai i) (ai j)) L e w':=by
 obtain ⟨ao,ca,ea,hy,x,Ha⟩:=ha.open;obtain ⟨bo,cb,eb,hz,y,Hb⟩:=hb.open;obtain ⟨G,hG⟩:=eX (Nat.gcd (ai i) (ai j));rw [<- hG];have hM:(∃ k0,(∀ wq,w.grownBy wq none->GcdR w G L k0 (.slice bo j.length cb) (.slice ao i.length ca) wq)/\gZ (ai i) (ai j)<0)∨(∃ k0,(∀ wq,w.grownBy wq none->GcdR w G L k0 (.slice ao i.length ca) (.slice bo j.length cb) wq)/\0<=gZ (ai i) (ai j)):=by
  rcases Nat.lt_or_ge (ai i) (ai j) with hlt | hA
  ·exact .inl ⟨ai i,fun wq hq=>⟨j,i,by rw [<- eb];exact hb.keep0 hq,by rw [<- ea];exact ha.keep0 hq,A,z,O,Q,P,by rw [Nat.gcd_comm];exact hG.symm,hq,rfl,Nat.le_of_lt hlt⟩,tO hlt⟩
  ·exact .inr ⟨ai j,fun wq hq=>⟨i,j,by rw [<- ea];exact ha.keep0 hq,by rw [<- eb];exact hb.keep0 hq,z,A,O,P,Q,hG.symm,hq,rfl,hA⟩,nH hA⟩
 have WA:=ab ha;have WB:=ab hb;have TX:=ab z;have TY:=ab A;subst ea eb;clear Ha Hb ha hb z A B P Q hG hy x hz y;rcases hM with ⟨k0,h0,J⟩ | ⟨k0,h0,J⟩
 all_goals
  have H0:=ab h0;clear h0;go_enter Tryz.func133,Tryz.ntmps133
  go_wp2_with fail;refine (gG _ _ i j _ WA WB TX TY).mono ?_;rintro e w1 ⟨rfl,q1,rfl⟩;generalize gZ (ai i) (ai j)=o1 at J ⊢;clear WA WB TX TY;go_wp2;go_loopg [0,1] k0 (fun k av bv wr=>Hid (GcdR w G L k av bv wr))
  case atStart=>exact H0 _ (aS _)
  case round =>
   obtain ⟨xs,ys,h1,h2,h3,h4,h5,h6,h7,h8,h9,hB,U⟩:=hrel.out;obtain ⟨kf,kk,rfl,hy,x,_⟩:=h1.open;obtain ⟨kl,ko,rfl,hz,y,_⟩:=h2.open;unfold maxLen at x y;have he:ys.length<=xs.length:=ma h2.sm h4 h1.sm U;have H1:=ab h1;have I:=ab h2;have H3:=ab h3;have H4:=ab h4;have H5:=ab h5;have H8:=ab h8;have H9:=ab h9;have hf:=ab hB;have hN:=ab U;clear h1 h2 h3 h4 h5 h8 h9 hB U hrel H0;go_wp2_with fail;refine (mx _ (ai ys) L _ ⟨ys,I,H4,rfl,h7⟩ O).mono ?_;rintro e w2 ⟨kb,rfl,E,K,rfl⟩;by_cases hj:62<kb
   ·have hY:=ab (bits_gt E hj);clear E K;go_wp2_with fail;refine (wY _ _ xs ys _ H1 I H3 hN hY O).mono ?_;rintro e p ⟨a,b,c,d,rfl,hC,g3⟩;obtain ⟨i1,i2,i3,i4,i5,i6,i7,i8,i9,hE,hH,hI⟩:=hC.gives;have G3:=ab g3;have I5:=ab i5;have I6:=ab i6;have I7:=ab i7;have I8:=ab i8;have I9:=ab i9;have hQ:=ab hE;have hR:=ab hH;have hS:=ab hI;clear hC g3 i5 i6 i7 i8 i9 hE hH hI;by_cases t:b=0
    ·have bb:(b==0)=true:=beq_iff_eq.2 t;clear t;have o:Hid (0<ai ys):=by have:=hY.out;show 0<ai ys;omega
     have ga:p.grownBy (p.alloc (Obj.cells #[Value.int .i64 a,Value.int .i64 b,Value.int .i64 c,Value.int .i64 d] 215)) none:=ag (ae _ _) _;have GA:=ab (aa G3 ga);clear ga;go_wp2_with fail;refine (jF _ _ (ai xs) (ai ys) L L _ ⟨xs,H1.keep0 GA,H3,rfl,h6⟩ ⟨ys,I.keep0 GA,H4,rfl,h7⟩ o O).mono ?_;intro e D hD;obtain ⟨q,r,rfl,s,⟨V,r1,r2,r3,r4⟩,M,k4,k5⟩:=hD;obtain ⟨kw,kz,rfl,kF,hJ,_⟩:=r1.open;obtain ⟨kH,kN,kS,rfl,_,_,_⟩:=s.shape;have R1:=ab r1;have R2:=ab r2;have R3:=ab r3;have K3:=ab M;clear s r1 r2 r3 M k4 k5;go_wp2;have C:=Nat.mod_lt (ai xs) o;go_roundg (ai V)
     case measure=>rw [R3,<- hf];exact C
     case rel=>exact ⟨ys,V,I.keep0 (aa GA K3),R1,H4,R2,o,h7,r4,by rw [R3,Nat.gcd_comm,<- Nat.gcd_rec,Nat.gcd_comm];exact H8,aa H9 (aa GA K3),rfl,by rw [R3];exact Nat.le_of_lt C⟩
    ·have bb:(b==0)=false:=zB t;have hT:=ab t;clear t;obtain ⟨W,X⟩:=eX (p.alloc (Obj.cells #[Value.int .i64 a,Value.int .i64 b,Value.int .i64 c,Value.int .i64 d] 215));have hF:lJ W p.heap.size a b c d:=by
      rw [X];show (p.heap.push _)[p.heap.size]? = _
      rw [Array.getElem?_push_size]
     have R:=ab (aa G3 (show p.grownBy W none by rw [X];exact ag (ae _ _) _));have f:Hid (∀ wx,W.grownBy wx none->wx.cell? ⟨p.heap.size,0,none⟩=some (.int .i64 a)/\wx.cell? ⟨p.heap.size,1,none⟩=some (.int .i64 b)/\wx.cell? ⟨p.heap.size,2,none⟩=some (.int .i64 c)/\wx.cell? ⟨p.heap.size,3,none⟩=some (.int .i64 d)):=by
      intro wx hg;obtain ⟨s0,s1,s2,s3,_⟩:=hF.cells;exact ⟨hg.cell s0 Z,hg.cell s1 Z,hg.cell s2 Z,hg.cell s3 Z⟩
     have hk:Hid (∀ wx,W.grownBy wx none->Ws wx (.slice kf xs.length kk) xs):=fun wx hg=>H1.keep0 (aa R hg)
     have ho:Hid (∀ wx,W.grownBy wx none->Ws wx (.slice kl ys.length ko) ys):=fun wx hg=>I.keep0 (aa R hg)
     obtain ⟨s0,s1,s2,s3⟩:=f.out W (ae _ _);have hp:xs.length<=10000000000000:=O
     clear hF;go_wp2;rw [<- X];clear X;go_region_held3 (fun w'=>w'.cell? ⟨p.heap.size,0,none⟩=some (.int .i64 a)/\w'.cell? ⟨p.heap.size,1,none⟩=some (.int .i64 b)/\w'.cell? ⟨p.heap.size,2,none⟩=some (.int .i64 c)/\w'.cell? ⟨p.heap.size,3,none⟩=some (.int .i64 d)) (go_keep)
      (first | (go_at_call_of 173 (Value.int .i64 a);refine (pR _ _ xs ys a b _ _ (hk _ (by first | exact cN _ | exact aa G1 (cN _) | exact aa G2 (cN _) | exact ae _ _ | exact G1 | exact G2)) (ho _ (by first | exact cN _ | exact aa G1 (cN _) | exact aa G2 (cN _) | exact ae _ _ | exact G1 | exact G2)) he i1.1 i1.2 i2.1 i2.2 rfl I5 I6 hp).mono ?_;rintro e D ⟨v1,rfl,s,N,M⟩;have G1:W.grownBy D none:=aa (by first | exact cN _ | exact aa G1 (cN _) | exact aa G2 (cN _) | exact ae _ _ | exact G1 | exact G2) N;have s10:=(f D G1).1;have s11:=(f D G1).2.1;have s12:=(f D G1).2.2.1;have s13:=(f D G1).2.2.2) | (go_at_call_of 173 (Value.int .i64 c);refine (pR _ _ xs ys c d _ _ (hk _ (by first | exact cN _ | exact aa G1 (cN _) | exact aa G2 (cN _) | exact ae _ _ | exact G1 | exact G2)) (ho _ (by first | exact cN _ | exact aa G1 (cN _) | exact aa G2 (cN _) | exact ae _ _ | exact G1 | exact G2)) he i3.1 i3.2 i4.1 i4.2 rfl I7 I8 hp).mono ?_;rintro e w5 ⟨v2,rfl,m1,m2,m3⟩;have G2:W.grownBy w5 none:=aa (by first | exact cN _ | exact aa G1 (cN _) | exact aa G2 (cN _) | exact ae _ _ | exact G1 | exact G2) m2;have s20:=(f w5 G2).1;have s21:=(f w5 G2).2.1;have s22:=(f w5 G2).2.2.1;have s23:=(f w5 G2).2.2.2))
     all_goals first
      | (have K1:=ab (s.keep0 (by first | exact m2 | exact aa gr_drew1 m2 | exact aa (cN _) m2));have M1:=ab m1;have GF:=ab (aa R G2);clear s N M m1 m2 m3 G1 G2 s10 s11 s12 s13 s20 s21 s22 s23)
      | (have K1:=ab s;have M1:=ab (m1.keep0 (by first | exact N | exact aa gr_drew1 N | exact aa (cN _) N));have GF:=ab (aa R G1);clear s N M m1 m2 m3 G1 G2 s10 s11 s12 s13 s20 s21 s22 s23)
     all_goals
      obtain ⟨us,Y,x2,x3,x4⟩:=K1.out;obtain ⟨vs,y1,y2,y3,y4⟩:=M1.out;obtain ⟨uo,uc,rfl,ql,hu2,_⟩:=Y.open;obtain ⟨vo,vc,rfl,qo,qq,_⟩:=y1.open;have X1:=ab Y;have X2:=ab x2;have X3:=ab x3;have Y1:=ab y1;have Y2:=ab y2;have Y3:=ab y3;clear Y x2 x3 y1 y2 y3 K1 M1 s0 s1 s2 s3;go_wp2;go_roundg (ai vs)
      case measure=>rw [Y3,<- hf];exact hS hT
      case rel=>exact ⟨us,vs,X1,Y1,X2,Y2,by rw [X3];exact I9,O,O,by rw [X3,Y3,hR];exact H8,aa H9 GF,rfl,by rw [X3,Y3];exact hQ⟩
   ·have S:=ab (bits_le E O);clear E K;by_cases u:ys.length=0
    ·have E0:Hid (ys=[]):=List.eq_nil_of_length_eq_zero u;have bb:(((ys.length:Nat):Int)==0)=true:=beq_iff_eq.2 O;clear u;go_wp2;go_ret;refine ⟨_,rfl,⟨xs,H1,H3,?_,h6⟩,H9⟩;have:=H8.out;rw [E0] at this;simp only [ai,Nat.gcd_zero_right] at this;exact this
    ·have bb:(((ys.length:Nat):Int)==0)=false:=zB O;have o:Hid (0<ai ys):=by
      have:=jz H4 (by intro e;rw [e] at u;simp at u);have p3:0<4294967296^(ys.length-1):=Nat.pow_pos zD;show 0<ai ys
      omega
     clear u;go_wp2_with fail;refine (jF _ _ (ai xs) (ai ys) L L _ ⟨xs,H1,H3,rfl,h6⟩ ⟨ys,I,H4,rfl,h7⟩ o O).mono ?_;intro e D hD;obtain ⟨q,r,rfl,s,⟨V,r1,r2,r3,r4⟩,M,k4,k5⟩:=hD;obtain ⟨kw,kz,rfl,kF,hJ,_⟩:=r1.open;obtain ⟨kH,kN,kS,rfl,_,_,_⟩:=s.shape;have C:=Nat.mod_lt (ai xs) o;have hr:Hid (ai V<4611686018427387904):=by have:=S.out;show ai V<_;omega
     have R1:=ab r1;have R3:=ab r3;have K3:=ab M;obtain ⟨yn,F⟩:=eX (ai ys);obtain ⟨rn,H⟩:=eX (ai V);have hs:yn<4611686018427387904:=by rw [F];exact S
     have hu:rn<4611686018427387904:=by rw [H];exact hr
     have HG:Hid (Nat.gcd yn rn=G):=by rw [F,H,R3,Nat.gcd_comm,<- Nat.gcd_rec,Nat.gcd_comm];exact H8
     have hX:=ab F;have ka:=ab H;clear s r1 r2 r3 M k4 k5 C F H;go_wp2_with fail;refine (iK _ ys 0 _ (I.keep0 K3) (by rw [Nat.pow_zero,Nat.div_one];exact S) O).mono ?_;rintro e w5 ⟨rfl,q5,rfl⟩;rw [Nat.pow_zero,Nat.div_one,<- hX];go_wp2_with fail;refine (iK _ V 0 _ (R1.keep0 (aS _)) (by rw [Nat.pow_zero,Nat.div_one];exact hr) O).mono ?_;rintro e w6 ⟨rfl,q6,rfl⟩;rw [Nat.pow_zero,Nat.div_one,<- ka];have R:Hid (w.grownBy ((D.drewN q5).drewN q6) none):=aa H9 (aa K3 (aa (aS _) (aS _)));obtain ⟨W,X⟩:=eX ((D.drewN q5).drewN q6);rw [<- X] at R ⊢;clear X;go_wp2;go_loopw [10,11] (fun hv lv wr=>Hid (LastR G hv lv/\w.grownBy wr none)) (fun _ lv _=>(intOf lv).toNat)
     case atStart=>exact ⟨⟨yn,rn,rfl,rfl,hs,hu,HG⟩,R⟩
     case round =>
      obtain ⟨⟨h,l,rfl,rfl,hh,qa,hg⟩,hK⟩:=hrel.out;have T:=ab hg;have hx:=ab hK;clear hg hK hrel;by_cases kc:0<l
      ·have zz:(((l:Nat):Int)==0)=false:=zB O;obtain ⟨m,C⟩:=eX (h % l);have qb:m<l:=by rw [C];exact Nat.mod_lt _ kc
       have e1:((h:Nat):Int).tmod (l:Int)=(m:Int):=by
        rw [Int.tmod_eq_emod_of_nonneg O,C];exact (Int.natCast_emod h l).symm
       have HM:=ab C;clear C;go_wp2;go_quiet (fail)
       go_wp2;go_roundw
       case rel=>exact ⟨⟨l,m,rfl,rfl,qa,O,by rw [HM,Nat.gcd_comm,<- Nat.gcd_rec,Nat.gcd_comm];exact T⟩,aa hx (cN _)⟩
       case measure=>exact bH
      ·obtain rfl:l=0:=O
       have hG:Hid (h=G):=by have:=T.out;rw [Nat.gcd_zero_right] at this;exact this
       obtain ⟨x0,B⟩:=eX (h % 4294967296);obtain ⟨Y,hL⟩:=eX (h / 4294967296);have e0:((h:Nat):Int) % 4294967296=(x0:Int):=O
       have e1:((h:Nat):Int) / 4294967296=(Y:Int):=O
       obtain ⟨t1,t2⟩:=Cy h O;rw [<- B,<- hL] at t1 t2;have T1:=ab t1;have T2:=ab t2;clear t1 t2 B hL T;go_wp2_with fail;have ha:bZ (wr.alloc (Obj.cells #[Value.int IntKind.u32 (x0:Int),Value.int IntKind.u32 (Y:Int)] 174)) wr.heap.size [x0,Y]:=by
        unfold bZ;show (wr.heap.push _)[wr.heap.size]? = _
        rw [Array.getElem?_push_size];rfl
       have hw:=ha.ws T1 (by unfold maxLen;simp);clear ha;refine (fN _ _ _ hw).mono ?_;rintro e w7 ⟨v',rfl,rfl,s,N⟩;have K1:=ab s;clear hw s N;go_wp2;go_ret;obtain ⟨zs,z1,z2,z3,z4⟩:=K1.out;rw [T2,hG] at z3;have qc:G<=ai ys:=by rw [<- H8];exact Nat.gcd_le_right _ o
       have qf:=ma z1.sm z2 I.sm (show ai zs<=ai ys by omega);exact ⟨v',rfl,⟨zs,z1,z2,z3,O⟩,ag hx _⟩
def Al (a:Sm xs) (b:Tr xs):(xs==[1])=decide (ai xs=1):=by
 rw [Bool.eq_iff_iff];simp only [beq_iff_eq,decide_eq_true_eq];constructor
 ·intro e;rw [e];simp [ai]
 ·intro e;refine AM a (Sm.cons zD Sm.nil) b (by simp [Tr,aQ]) ?_;rw [e];simp [ai]
def rU (v:Value) (L:Nat) (w:World) (h:aT w v 1 L):Calls Tryz.prog 175 #[v] w fun e w'=>e=.returned (.bool true)/\w'=w:=by
 obtain ⟨xs,a,b,c,f⟩:=h;refine (rP v xs w a).mono ?_;rintro e w' ⟨rfl,rfl⟩;rw [Al a.sm b,c];exact ⟨rfl,rfl⟩
def vk (v:Value) (n L:Nat) (w:World) (h:aT w v n L) (hn:n≠1):Calls Tryz.prog 175 #[v] w fun e w'=>e=.returned (.bool false)/\w'=w:=by
 obtain ⟨xs,a,b,c,f⟩:=h;refine (rP v xs w a).mono ?_;rintro e w' ⟨rfl,rfl⟩;rw [Al a.sm b,c];exact ⟨by simp [hn],rfl⟩
def FV (w:World) (v:Value) (neg:Bool) (n d L:Nat):Prop :=
 ∃ up down,v=.agg #[.bool neg,up,down]/\aT w up n L/\((down=.slice none 0 0/\d=1)∨(aT w down d L/\1<d))/\Nat.gcd n d=1/\(neg=true->0<n)
def FV.keep0 {neg:Bool} (h:FV w v neg n d L) (hg:w.grownBy w' none):FV w' v neg n d L:=by
 obtain ⟨up,a,e,c,b,f,i⟩:=h;refine ⟨up,a,e,c.keep0 hg,?_,f,i⟩;rcases b with b | ⟨b,j⟩
 ·exact .inl b
 ·exact .inr ⟨b.keep0 hg,j⟩
def gQ (w:World) (neg:Bool) (n d L:Nat) (e:Ending) (w':World):Prop:=∃ v,e=.returned v/\FV w' v neg n d L/\w.grownBy w' none
def vK (c:Bool) (u d:Value) (n m L:Nat) (w:World) (j:aT w u n L) (hd:aT w d m L) (l:n=0∨m=0) :
  Calls Tryz.prog 123 #[.bool c,u,d] w fun e w'=>gQ w false 0 1 L e w':=by
 obtain ⟨t,i,x,rfl,u1,u2,u3⟩:=j.shape;obtain ⟨r,p,y,rfl,q,z,s⟩:=hd.shape;unfold maxLen at u3 s;have o:i=0∨p=0:=by
  rcases l with h | h
  ·exact .inl (u1.2 h)
  ·exact .inr (q.2 h)
 clear u1 q l j hd;have a:gQ w false 0 1 L (.returned (.agg #[.bool false,.slice none 0 0,.slice none 0 0])) (w.alloc (Obj.cells #[Value.bool false,Value.slice none 0 0,Value.slice none 0 0] 105)) :=
  ⟨_,rfl,⟨_,_,rfl,⟨[],Ws.nil _,rfl,rfl,Z⟩,.inl ⟨rfl,rfl⟩,rfl,Z⟩,ag (ae _ _) _⟩
 have b:=ab a;clear a;by_cases f:i=0
 ·subst f;clear o;go_enter Tryz.func123,Tryz.ntmps123
  go_wp2;exact bodyPost_ret (v:=.agg #[.bool false,.slice none 0 0,.slice none 0 0]) (by simp [results,Tryz.results123,go_sem]) rfl b
 ·obtain rfl:p=0:=O
  have hb:(((i:Nat):Int)==0)=false:=zB O;clear o f;go_enter Tryz.func123,Tryz.ntmps123
  go_wp2;exact bodyPost_ret (v:=.agg #[.bool false,.slice none 0 0,.slice none 0 0]) (by simp [results,Tryz.results123,go_sem]) rfl b
def bR (w:World) (g:Nat):Prop:=∀ i (x:Nat),w.cell? ⟨g,i,none⟩≠some (.int .u32 (x:Nat))
def bF {b:Bool} (h:(w.alloc (Obj.cells #[.bool b,.slice none 0 0,.slice none 0 0] 105)).grownBy W none):bR W w.heap.size:=by
 have e:W.heap[w.heap.size]? = some (Obj.cells #[.bool b,.slice none 0 0,.slice none 0 0] 105 (0,0)):=by
  rw [h.block w.heap.size Z Z];exact heap_alloc_new w _
 intro i x;match i with
 | 0=>simp [World.cell?,e]
 | 1=>simp [World.cell?,e]
 | 2=>simp [World.cell?,e]
 | i+3=>simp [World.cell?,e]
def aT.other (h:aT w v n L) (hg:bR w g) (c:w.grownBy w' (some g)):aT w' v n L:=by
 obtain ⟨xs,f,l,m,o⟩:=h;refine ⟨xs,?_,l,m,o⟩;by_cases r:xs.length=0
 ·refine ⟨f.sm,?_⟩;rcases f.sh with h | ⟨b,off,cap,rfl,hb,p,q,hc⟩
  ·exact .inl h
  ·exact .inr ⟨b,off,cap,rfl,Nat.lt_of_lt_of_le hb c.size,p,q,fun i hi=>O⟩
 ·refine f.keep c ?_;intro k e j;cases e
  obtain ⟨s,cap,rfl,_,_,hc⟩:=f.open;obtain ⟨b,off,rfl,_,a⟩:=hc 0 O;simp [ar] at j;subst j;exact hg _ _ a
def aW {b:Value} {u:Value} (h:(w.alloc (Obj.cells #[b,u,v] 105)).grownBy W none) :
  W.cell? ⟨w.heap.size,0,none⟩=some b/\W.cell? ⟨w.heap.size,1,none⟩=some u/\W.cell? ⟨w.heap.size,2,none⟩=some v/\(∀ i,W.frozen? ⟨w.heap.size,i,none⟩=false):=by
 have e:W.heap[w.heap.size]? = some (Obj.cells #[b,u,v] 105 (0,0)):=by
  rw [h.block w.heap.size Z Z];exact heap_alloc_new w _
 refine ⟨?_,?_,?_,fun i=>?_⟩<;>simp [World.cell?,World.frozen?,e]
def sb {m:Nat} (h:n % m=0) (a:0<m):n / Nat.gcd n m=n / m/\m / Nat.gcd n m=1:=by
 rw [Nat.gcd_eq_right (Nat.dvd_of_mod_eq_zero h)];exact ⟨rfl,Nat.div_self a⟩
def Eh {m:Nat} (h:n % m≠0) (b:0<m):1<m / Nat.gcd n m:=by
 have hd:Nat.gcd n m∣m:=Nat.gcd_dvd_right n m;have f:0<Nat.gcd n m:=Nat.gcd_pos_of_pos_right _ b;have j:0<m / Nat.gcd n m:=Nat.div_pos (Nat.gcd_le_right _ b) f;rcases Nat.lt_or_ge 1 (m / Nat.gcd n m) with c | c
 ·exact c
 ·exfalso
  have e:m / Nat.gcd n m=1:=O
  have i:m=Nat.gcd n m:=by
   have:=Nat.div_mul_cancel hd;rw [e,Nat.one_mul] at this;exact this.symm
  have a:m∣n:=by rw [i];exact Nat.gcd_dvd_left n m
  exact h (Nat.mod_eq_zero_of_dvd a)
def OverE (w:World) (n L:Nat) (e:Ending) (w':World):Prop:=∃ v,e=.returned v/\aT w' v n L/\w.grownBy w' none
def gC (x y:Value) (n G L:Nat) (w:World) (c:aT w x n L) (hy:aT w y G L) (m:0<G) (C:L<=8000000000000) :
  Calls Tryz.prog 134 #[x,y] w fun e w'=>OverE w (n / G) L e w':=by
 obtain ⟨E,F,H,rfl,u1,u2,u3⟩:=c.shape;obtain ⟨t,I,J,rfl,u,K,M⟩:=hy.shape;have i:=ab c;have f:=ab hy;clear c hy u1 u;by_cases b:G=1
 ·have a:=ab b;clear b;go_enter Tryz.func134,Tryz.ntmps134
  go_wp2_with fail;refine (rU _ L _ (by have:=f.out;rw [a] at this;exact this)).mono ?_;rintro e z ⟨rfl,rfl⟩;go_wp2;go_ret;exact ⟨_,rfl,by rw [a,Nat.div_one];exact i,ae _ _⟩
 ·have a:=ab b;clear b;go_enter Tryz.func134,Tryz.ntmps134
  go_wp2_with fail;refine (vk _ G L _ f a).mono ?_;rintro e z ⟨rfl,rfl⟩;go_wp2_with fail;refine (jF _ _ n G L L _ i f m O).mono ?_;intro e D s;obtain ⟨q,r,rfl,h,j,l,A,B⟩:=s;obtain ⟨N,ql,P,rfl,_,_,_⟩:=h.shape;obtain ⟨Q,R,rc,rfl,_,_,_⟩:=j.shape;have o:=ab h;have p:=ab l;clear h j l A B;go_wp2;go_ret;exact ⟨_,rfl,o,p⟩
def bI {a b c:Value} : w.grownBy (((w.setCell ⟨g,0,none⟩ a).setCell ⟨g,1,none⟩ b).setCell ⟨g,2,none⟩ c) (some g) :=
 ix (ix (ix (ae _ _) g 0 _ rfl) g 1 _ rfl) g 2 _ rfl
def qj {a:Bool} {u:Value} (hg:g=w.heap.size) (c:w.grownBy W none) (e:aT W u n L) (f:(v=.slice none 0 0/\d=1)∨(aT W v d L/\1<d)) (b:bR W g) (hc:Nat.gcd n d=1) (hn:0<n) :
  gQ w a n d L (.returned (.agg #[.bool a,u,v])) (((W.setCell ⟨g,0,none⟩ (.bool a)).setCell ⟨g,1,none⟩ u).setCell ⟨g,2,none⟩ v):=by
 refine ⟨_,rfl,⟨u,v,rfl,e.other b bI,?_,hc,fun _=>hn⟩,?_⟩
 ·rcases f with h | ⟨h,i⟩
  ·exact .inl h
  ·exact .inr ⟨h.other b bI,i⟩
 ·subst hg;exact ah (ah (ah c _ _ zL) _ _ zL) _ _ zL
def ym (a:Bool) (u d:Value) (n m L:Nat) (w:World) (F:aT w u n L) (hd:aT w d m L) (hn:0<n) (y:0<m) (hl:L<=8000000000000) :
  Calls Tryz.prog 123 #[.bool a,u,d] w fun e w'=>gQ w a (n / Nat.gcd n m) (m / Nat.gcd n m) L e w':=by
 obtain ⟨uo,U,uc,rfl,u1,u2,u3⟩:=F.shape;obtain ⟨hw,V,dc,rfl,d1,d2,d3⟩:=hd.shape;unfold maxLen at u3 d3;have hq:0<U:=by
  rcases zP U with h | h
  ·have:=u1.1 h;omega
  ·exact h
 have hr:0<V:=by
  rcases zP V with h | h
  ·have:=d1.1 h;omega
  ·exact h
 have hs:(((U:Nat):Int)==0)=false:=zB O;have hv:(((V:Nat):Int)==0)=false:=zB O;have HU:=ab F;have H:=ab hd;have l:Hid (0<n / Nat.gcd n m):=Nat.div_pos (Nat.gcd_le_left _ hn) (Nat.gcd_pos_of_pos_left _ hn);have c:Hid (Nat.gcd (n / Nat.gcd n m) (m / Nat.gcd n m)=1):=by
  show _=_
  rw [Nat.gcd_div (Nat.gcd_dvd_left n m) (Nat.gcd_dvd_right n m),Nat.div_self (Nat.gcd_pos_of_pos_left _ hn)]
 obtain ⟨A,X⟩:=eX (n / Nat.gcd n m);obtain ⟨B,Y⟩:=eX (m / Nat.gcd n m);rw [<- X] at l c ⊢;rw [<- Y] at c ⊢;have EA:=ab X;have I:=ab Y;clear F hd u1 d1 X Y;go_enter Tryz.func123,Tryz.ntmps123
 go_wp2_with fail;have g1:w.grownBy (w.alloc (Obj.cells #[Value.bool false,Value.slice none 0 0,Value.slice none 0 0] 105)) none:=ag (ae w none) _;have J:=ab g1;clear g1;refine (jF _ _ n m L L _ (HU.keep0 J) (H.keep0 J) y O).mono ?_;intro e w3 hD;obtain ⟨q,r,rfl,b,o,j,k4,k5⟩:=hD;obtain ⟨qo,ql,qc,rfl,_,_,_⟩:=b.shape;obtain ⟨ro,rl,rc,rfl,r1,r2,r3⟩:=o.shape;unfold maxLen at r3;have N1:=ab b;have N2:=ab o;have z:=ab j;have K:=ab (aa J z);clear b o j k4 k5;by_cases C:rl=0
 ·have f:Hid (n % m=0):=r1.1 C;have bb:(((rl:Nat):Int)==0)=true:=beq_iff_eq.2 O;clear C r1;obtain ⟨c0,c1,c2,i⟩:=aW z;have M:=i 0;have N:=i 1;have P:=i 2;clear i;go_wp2;refine bodyPost_ret (v:=.agg #[.bool a,.slice qo ql qc,.slice none 0 0]) (by simp [results,Tryz.results123,go_sem,c0,c1,c2]) rfl ?_;refine qj rfl K ?_ (.inl ⟨rfl,?_⟩) (bF z) c l
  ·rw [EA,(sb f y).1];exact N1
  ·rw [I,(sb f y).2]
 ·have f:Hid (n % m≠0):=fun e=>C (r1.2 e)
  have bb:(((rl:Nat):Int)==0)=false:=zB O;have Q:Hid (1<B):=by show 1<B;rw [I];exact Eh f y
  clear C r1;obtain ⟨t,x1,x2,x3,x4⟩:=H.out.keep0 K;obtain ⟨x,y1,y2,y3,y4⟩:=N2.out;obtain ⟨G,E⟩:=eX (Nat.gcd n m);have p:Nat.gcd (ai t) (ai x)=G:=by rw [x3,y3,E,Nat.gcd_comm,<- Nat.gcd_rec,Nat.gcd_comm]
  have s:0<G:=by rw [E];exact Nat.gcd_pos_of_pos_left _ hn
  have CD:=ab (ji _ _ t x _ x1 y1 x2 y2 O L x4 y4 O);rw [p] at CD;have HG:=ab E;clear x1 x2 x3 x4 y1 y2 y3 y4 p E;go_wp2_with fail;refine CD.mono ?_;rintro e w4 ⟨g,rfl,b,o⟩;obtain ⟨go,gl,gc,rfl,_,_,_⟩:=b.shape;have K1:=ab b;have K2:=ab o;have R:=ab (aa K K2);have S:=ab (aa z K2);clear b o;go_wp2_with fail;refine (gC _ _ n G L _ (HU.keep0 R) K1 s O).mono ?_;rintro e w6 ⟨q1,rfl,b,j⟩;obtain ⟨he,hf,hj,rfl,_,_,_⟩:=b.shape;have M1:=ab b;have D:=ab j;clear b j;go_wp2_with fail;refine (gC _ _ m G L _ (H.keep0 (aa R D)) (K1.keep0 D) s O).mono ?_;rintro e w7 ⟨q2,rfl,b,j⟩;obtain ⟨hk,ho,hp,rfl,_,_,_⟩:=b.shape;have P1:=ab b;have T:=ab j;clear b j;have K7:=ab (aa S (aa D T));have G7:=ab (aa R (aa D T));obtain ⟨c0,c1,c2,i⟩:=aW K7;have M:=i 0;have N:=i 1;have P:=i 2;clear i;go_wp2;refine bodyPost_ret (v:=.agg #[.bool a,.slice he hf hj,.slice hk ho hp]) (by simp [results,Tryz.results123,go_sem,c0,c1,c2]) rfl ?_;refine qj rfl G7 ?_ (.inr ⟨?_,Q⟩) (bF K7) c l
  ·rw [EA,<- HG];exact M1.keep0 T
  ·rw [I,<- HG];exact P1
def nu (c:UInt8):Bool:=48<=c.toNat && c.toNat<=57
def oI (l:List UInt8):Nat:=(l.takeWhile nu).length
def runD_le (l:List UInt8):oI l<=l.length:=by
 unfold oI;have:=(List.takeWhile_prefix nu (l:=l)).length_le;exact this
def lC (c:UInt8) (l:List UInt8):oI (c :: l)=if nu c then oI l+1 else 0:=by
 unfold oI;rw [List.takeWhile_cons];split<;>simp
def Bk (s:ByteArray) (k:Nat) (h:k<s.size):s.data.toList.drop k=s[k] :: s.data.toList.drop (k+1):=by
 rw [List.drop_eq_getElem_cons (by simpa using h)];rfl
def EndR (s:ByteArray) (E:Nat) (v:Value):Prop:=∃ k:Nat,k<=s.size/\v=.int .i64 k/\Hid (k+oI (s.data.toList.drop k)=E)
def tr (s:ByteArray) (k0:Nat) (w:World) (o:s.size<=10000000000000) (f:k0<=s.size) :
  Calls Tryz.prog 166 #[.string s,.int .i64 (k0:Nat)] w fun e w'=>e=.returned (.int .i64 ((k0+oI (s.data.toList.drop k0):Nat):Int))/\w'=w:=by
 obtain ⟨E,i⟩:∃ E,k0+oI (s.data.toList.drop k0)=E:=⟨_,rfl⟩;rw [i];have m:=ab i;clear i;go_enter Tryz.func166,Tryz.ntmps166
 go_wp2;go_loop [1] (fun v=>EndR s E v) (fun v=>s.size-(intOf v).toNat)
 case atStart=>exact ⟨k0,f,rfl,m⟩
 case round =>
  obtain ⟨k,p,rfl,c⟩:=hrel;by_cases hlt:k<s.size
  ·have hd:=Bk s k hlt;have a:=ab hd;clear hd;by_cases j:48<=s[k].toNat
   ·by_cases l:s[k].toNat<=57
    ·have b:(48:Int)<=(s[k].toNat:Int):=O
     have h:(s[k].toNat:Int)<=57:=O
     go_wp2;go_round
     case rel =>
      refine ⟨k+1,O,zN,?_⟩;have:=c.out;rw [a,lC,if_pos (by simp [nu,j,l])] at this;show _=_
      omega
     case measure=>exact bH
    ·have b:(48:Int)<=(s[k].toNat:Int):=O
     have h:¬ (s[k].toNat:Int)<=57:=O
     go_wp2;go_ret;refine ⟨?_,rfl⟩;have:=c.out;rw [a,lC,if_neg (by simp [nu,l])] at this;rw [<- this];rfl
   ·have b:¬ (48:Int)<=(s[k].toNat:Int):=O
    go_wp2;go_ret;refine ⟨?_,rfl⟩;have:=c.out;rw [a,lC,if_neg (by simp [nu,j])] at this;rw [<- this];rfl
  ·obtain rfl:k=s.size:=O
   go_wp2;go_ret;refine ⟨?_,rfl⟩;have:=c.out;rw [List.drop_of_length_le Z] at this;rw [<- this];rfl
def cr (l:List UInt8):Bool:=!l.isEmpty && l.all nu
def Fz (l:List UInt8):(oI l=l.length)↔l.all nu=true:=by
 induction l with
 | nil=>simp [oI]
 | cons c r ih =>
  rw [lC];by_cases h:nu c
  ·simp [h,ih]
  ·simp [h]
def cl (s:ByteArray) (w:World) (p:s.size<=10000000000000) :
  Calls Tryz.prog 122 #[.string s] w fun e w'=>e=.returned (.bool (cr s.data.toList))/\w'=w:=by
 by_cases i:s.size=0
 ·have e:s=⟨#[]⟩:=by
   cases s with
   | mk d=>cases d with
    | mk l =>
     cases l with
     | nil=>rfl
     | cons a b=>simp [ByteArray.size] at i
  subst e;go_enter Tryz.func122,Tryz.ntmps122
  go_wp2;go_ret;exact ⟨rfl,rfl⟩
 ·have c:¬ s.toList=[]:=by
   intro e;apply i;rw [ByteArray.toList_eq] at e;rw [Lib.size_eq,e];rfl
  have f:Hid (cr s.data.toList=decide (oI s.data.toList=s.size)):=by
   show _=_
   rw [Bool.eq_iff_iff,decide_eq_true_eq];have:=Fz s.data.toList;rw [Array.length_toList] at this;rw [show s.size=s.data.size from rfl,this];unfold cr;have j:s.data.toList.isEmpty=false:=by
    cases hl:s.data.toList with
    | nil =>
     exfalso
     apply i;show s.data.size=0
     rw [<- Array.length_toList,hl];rfl
    | cons a b=>rfl
   simp [j]
  have h:=runD_le s.data.toList;rw [Array.length_toList,show s.data.size=s.size from rfl] at h;go_enter Tryz.func122,Tryz.ntmps122
  go_wp2_with fail;refine (tr s 0 _ p (Nat.zero_le _)).mono ?_;rintro e w1 ⟨rfl,rfl⟩;rw [Nat.zero_add,List.drop_zero];have m:=f.out;generalize oI s.data.toList=r at h m ⊢;have q:=ab m;have o:=ab c;clear m f c;go_wp2;go_ret;refine ⟨?_,rfl⟩;rw [q];show Ending.returned (.bool (!s.toList.isEmpty && ((r:Int)==(s.size:Int))))=_
  have j:s.toList.isEmpty=false:=by
   cases hl:s.toList with
   | nil=>exact absurd hl o
   | cons a b=>rfl
  rw [j];congr 2
  rw [Bool.eq_iff_iff];simp;omega
def bw (l:List UInt8):Nat:=l.foldl (fun a c=>a*10+(c.toNat-48)) 0
def Dl (l:List UInt8) (a:Nat):l.foldl (fun a (c:UInt8)=>a*10+(c.toNat-48)) a=a*10^l.length+bw l:=by
 unfold bw;induction l generalizing a with
 | nil=>simp
 | cons c r ih =>
  rw [List.foldl_cons,ih,List.foldl_cons,ih (0*10+(c.toNat-48))];simp only [List.length_cons,Nat.pow_succ,Nat.zero_mul,Nat.zero_add,Nat.add_mul];rw [Nat.mul_assoc,Nat.mul_comm 10];omega
def lZ (l r:List UInt8):bw (l++r)=bw l*10^r.length+bw r:=by
 have:bw (l++r)=r.foldl (fun a (c:UInt8)=>a*10+(c.toNat-48)) (bw l):=by simp [bw,List.foldl_append]
 rw [this,Dl]
def pU (l:List UInt8) (c:UInt8):bw (l++[c])=bw l*10+(c.toNat-48):=by simp [bw]
def tp (l:List UInt8) (h:∀ c∈l,nu c=true):bw l<10^l.length:=by
 have f:∀ (n:Nat) (l:List UInt8),l.length=n->(∀ c∈l,nu c=true)->bw l<10^l.length:=by
  intro n;induction n with
  | zero=>intro l b _;have:l=[]:=List.eq_nil_of_length_eq_zero b;subst this;simp [bw]
  | succ n ih =>
   intro l b h;have a:l≠[]:=by intro e;subst e;simp at b
   obtain ⟨F,p,rfl⟩:∃ F p,l=F++[p]:=⟨l.dropLast,l.getLast a,(List.dropLast_concat_getLast a).symm⟩;have j:=ih F (by simpa using b) (fun c hc=>h c (by simp [hc]));have i:=h p Z;unfold nu at i;rw [Bool.and_eq_true,decide_eq_true_eq,decide_eq_true_eq] at i;rw [pU,List.length_append,List.length_singleton,Nat.pow_succ];omega
 exact f l.length l rfl h
def sP (s:ByteArray) (k:Nat) (h:k<s.size):s.data.toList.take (k+1)=s.data.toList.take k++[s[k]]:=by
 rw [List.take_succ_eq_append_getElem (by simpa using h)];rfl
def kY (r:ByteArray) (i:Nat) (h:i<=r.size):(r.extract i r.size).data.toList=r.data.toList.drop i/\(r.extract i r.size).size=r.size-i:=by
 have e:(r.extract i r.size).data.toList=r.data.toList.drop i:=by
  rw [ByteArray.data_extract,Array.toList_extract];show List.take (r.data.size-i) _=_
  rw [zT Z]
 refine ⟨e,?_⟩;rw [Lib.size_eq,e,List.length_drop,Lib.size_eq]
def Ce (X D c i n:Nat) (l:List UInt8) (b:l.length=n) (hi:i<=n) (hc:c=bw (l.take i)) (h:X*10^n+bw l=D) (a:X=0∨i=9):(X*1000000000+c)*10^(n-i)+bw (l.drop i)=D:=by
 have e:=lZ (l.take i) (l.drop i);rw [List.take_append_drop,List.length_drop,b,<- hc] at e;rw [<- h,e,Nat.add_mul,<- Nat.add_assoc];congr 2
 rcases a with a | a
 ·rw [a];simp
 ·rw [Nat.mul_assoc];congr 1
  rw [show (1000000000:Nat)=10^9 from rfl,<- Nat.pow_add];congr 1
  omega
def ReadR (w:World) (D N:Nat) (dv ov:Value) (wr:World):Prop :=
 ∃ (r:ByteArray) (xs:List Nat),dv=.string r/\gU wr w.heap.size ov xs/\Sm xs/\Tr xs/\w.grownBy wr none/\xs.length+r.size<=N/\ai xs*10^r.size+bw r.data.toList=D/\(∀ c∈r.data.toList,nu c=true)/\(ai xs=0∨r.size % 9=0)
def sizeOfS:Value->Nat
 | .string s=>s.size
 | _=>0
def ChunkR (r:ByteArray) (cv iv:Value) (k:Nat):Prop:=∃ i c:Nat,i<=k/\iv=.int .i64 i/\cv=.int .u32 c/\Hid (c=bw (r.data.toList.take i))
def jS (s:ByteArray) (w:World) (hs:s.size<=7000000000000) (hd:∀ c∈s.data.toList,nu c=true) :
  Calls Tryz.prog 124 #[.string s] w fun e w'=>∃ v,e=.returned v/\aT w' v (bw s.data.toList) s.size/\w.grownBy w' none/\bC w v:=by
 have HD:=ab hd;clear hd;go_enter Tryz.func124,Tryz.ntmps124
 go_wp2;go_loopw [0,3] (fun Q ov wr=>Hid (ReadR w (bw s.data.toList) s.size Q ov wr)) (fun Q _ _=>sizeOfS Q)
 case atStart=>exact ⟨s,[],rfl,oV _ _,Sm.nil,rfl,ae _ _,Z,by simp [ai],HD,.inl rfl⟩
 case round =>
  obtain ⟨r,xs,rfl,K,U,V,X,h5,h6,Y,h8⟩:=hrel.out;obtain ⟨ao,cap,ev,hj,hl,_⟩:=K.open;subst ev;have z:=ab K;have R:=ab U;have S:=ab V;have C:=ab X;have T:=ab h6;have A:=ab Y;have H8:=ab h8;clear K U V X h6 Y h8 hrel;by_cases hr:0<r.size
  ·obtain ⟨k,hk⟩:=eX ((r.size-1) % 9+1);have he:1<=k:=O
   have hf:k<=9:=O
   have p:k<=r.size:=O
   have m:(((r.size:Int)-1) % 9+1)=(k:Int):=O
   have l:(((r.size:Int)-1).tmod 9+1)=(k:Int):=by rw [Int.tmod_eq_emod_of_nonneg O];exact m
   have HK:=ab hk;clear hk;go_wp2;go_loop [5,16] (fun cv iv=>ChunkR r cv iv k) (fun _ iv=>k-(intOf iv).toNat)
   case atStart=>exact ⟨0,0,O,rfl,rfl,by simp [bw,Hid]⟩
   case round =>
    obtain ⟨i,c,hi,rfl,rfl,B⟩:=hrel;by_cases hlt:i<k
    ·have q:i<r.size:=O
     have f:nu r[i]=true:=A.out _ (by
      have:r[i]=r.data.toList[i]'(by simpa using q):=rfl;rw [this];exact List.getElem_mem _)
     unfold nu at f;rw [Bool.and_eq_true,decide_eq_true_eq,decide_eq_true_eq] at f;obtain ⟨hm,ho⟩:=f;have D:c<=99999999:=by
      have E:=tp (r.data.toList.take i) (fun c hc=>A c (List.mem_of_mem_take hc));rw [<- B,List.length_take] at E;have F:10^min i r.data.toList.length<=10^8:=Nat.pow_le_pow_right zD O;omega
     have G:=ab (sP r i q);clear m l;go_wp2;go_round
     case rel =>
      refine ⟨i+1,c*10+(r[i].toNat-48),O,zN,zN,?_⟩;show _=_
      rw [G,pU,<- B]
     case measure=>exact bH
    ·obtain rfl:i=k:=O
     have D:c<=999999999:=by
      have E:=tp (r.data.toList.take i) (fun c hc=>A c (List.mem_of_mem_take hc));rw [<- B,List.length_take] at E;have F:10^min i r.data.toList.length<=10^9:=Nat.pow_le_pow_right zD O;omega
     clear m l;go_wp2_with fail;refine (DP _ xs 1000000000 c _ w.heap.size z R O O O C.size).mono ?_;rintro e w2 ⟨v',rfl,a⟩;obtain ⟨M,N,gl,rfl⟩:∃ M N gl,v'=.slice M gl N:=by
      obtain ⟨_,P,_⟩:=a;obtain ⟨M,N,e,_⟩:=P.open;exact ⟨_,_,_,e⟩
     have H:=ab a;clear a;obtain ⟨x,y⟩:=kY r i p;have t:=ab x;have j:=ab y;clear x y;go_wp2;refine ⟨?_,?_⟩
     ·obtain ⟨ys,P,o2,o3,o4,o5,o6⟩:=H.out;have hk:=HK.out;refine ⟨r.extract i r.size,ys,rfl,P,o2,o6 S zD,aw (r2:=ar (.slice ao xs.length cap)) C o5 (fun _ _ e=>e) (fun b hb e=>by have:=(z.fresh b e.symm).1;omega),?_,?_,?_,.inr ?_⟩
      ·rw [j];omega
      ·rw [j,t,o3];refine Ce (ai xs) _ c i r.size r.data.toList (by rw [Lib.size_eq]) p B T ?_;rcases H8.out with h | h
       ·exact .inl h
       ·right;omega
      ·rw [t];intro c hc;exact A c (List.mem_of_mem_drop hc)
      ·rw [j];omega
     ·show (r.extract i r.size).size<r.size
      rw [j];omega
  ·have o:r.size=0:=O
   have u:r.data.toList=[]:=List.eq_nil_of_length_eq_zero (by rw [<- Lib.size_eq];exact o);have I:=ab u;have J:=ab o;clear u o;go_wp2;go_ret;refine ⟨_,rfl,?_,C,z.fr⟩;have h6:=T.out;rw [J,I] at h6;have:ai xs=bw s.data.toList:=by
    rw [<- h6];simp [bw]
   rw [<- this];exact z.num R S _ O
def bn (b:Bool) (n d:Nat):Bool×Nat×Nat:=if n=0∨d=0 then (false,0,1) else (b,n / Nat.gcd n d,d / Nat.gcd n d)
def fM (l:List UInt8):List UInt8:=if (Lib.cut l [47]).2.2 then (Lib.cut l [47]).2.1 else [49]
def ij (l:List UInt8):Bool×Nat×Nat :=
 if cr (Lib.cut (Lib.trimPrefix l [45]) [47]).1 && cr (fM (Lib.trimPrefix l [45])) then
  bn (Lib.hasPrefix l [45]) (bw (Lib.cut (Lib.trimPrefix l [45]) [47]).1) (bw (fM (Lib.trimPrefix l [45])))
 else (false,0,1)
def ky (l a:List UInt8):(Lib.cut l a).1.length<=l.length/\(Lib.cut l a).2.1.length<=l.length:=by
 unfold Lib.cut;split
 ·simp only [List.length_take,List.length_drop];omega
 ·simp
def iY (l p:List UInt8):(Lib.trimPrefix l p).length<=l.length:=by
 unfold Lib.trimPrefix;split
 ·simp
 ·exact zL
def tZ (l:List UInt8):(⟨l.toArray⟩:ByteArray).size=l.length:=by simp [ByteArray.size]
def dm {l:List UInt8} (h:cr l=true):∀ c∈l,nu c=true:=by
 unfold cr at h;rw [Bool.and_eq_true] at h;exact fun c hc=>List.all_eq_true.1 h.2 c hc
def OfE (w:World) (l:List UInt8) (L:Nat) (e:Ending) (w':World):Prop:=∃ v,e=.returned v/\FV w' v (ij l).1 (ij l).2.1 (ij l).2.2 L/\w.grownBy w' none
def nD (a:Bool) (u d:Value) (n m L:Nat) (w:World) (b:aT w u n L) (hd:aT w d m L) (c:L<=8000000000000) :
  Calls Tryz.prog 123 #[.bool a,u,d] w fun e w'=>gQ w (bn a n m).1 (bn a n m).2.1 (bn a n m).2.2 L e w':=by
 by_cases h:n=0∨m=0
 ·have e:bn a n m=(false,0,1):=by unfold bn;rw [if_pos h]
  rw [e];exact vK a u d n m L w b hd h
 ·have e:bn a n m=(a,n / Nat.gcd n m,m / Nat.gcd n m):=by unfold bn;rw [if_neg h]
  rw [e];exact ym a u d n m L w b hd O O c
def FV.other {neg:Bool} (h:FV w v neg n d L) (hg:bR w g) (a:w.grownBy w' (some g)):FV w' v neg n d L:=by
 obtain ⟨up,b,e,f,c,i,j⟩:=h;refine ⟨up,b,e,f.other hg a,?_,i,j⟩;rcases c with c | ⟨c,l⟩
 ·exact .inl c
 ·exact .inr ⟨c.other hg a,l⟩
def FV.shape {neg:Bool} (h:FV w v neg n d L):∃ uo ul uc do_ dl dc,v=.agg #[.bool neg,.slice uo ul uc,.slice do_ dl dc]:=by
 obtain ⟨up,b,e,c,a,f,i⟩:=h;obtain ⟨uo,ul,uc,rfl,_⟩:=c.shape;rcases a with ⟨rfl,_⟩ | ⟨a,_⟩
 ·exact ⟨_,_,_,_,_,_,e⟩
 ·obtain ⟨do_,dl,dc,rfl,_⟩:=a.shape;exact ⟨_,_,_,_,_,_,e⟩
def oT {l:List UInt8} (h:ij l=(false,0,1)) (hg:w.grownBy w' none):OfE w l L (.returned (.agg #[.bool false,.slice none 0 0,.slice none 0 0])) w':=by
 refine ⟨_,rfl,?_,hg⟩;rw [h];exact ⟨_,_,rfl,⟨[],Ws.nil _,rfl,rfl,Z⟩,.inl ⟨rfl,rfl⟩,rfl,Z⟩
def vS (s:ByteArray) (m:Int) (w:World) (hs:s.size<=600000000) (U:w.cell? ⟨2,0,none⟩=some (.int .i64 m)) :
  Calls Tryz.prog 75 #[.string s] w fun e w'=>OfE w s.data.toList (s.size+1) e w':=by
 have I:(w.alloc (Obj.cells #[Value.bool false,Value.slice none 0 0,Value.slice none 0 0] 105)).cell? ⟨2,0,none⟩=some (.int .i64 m) :=
  (World.grownBy_alloc w _ none).cell U Z
 have hf:=ab I;clear U I;go_enter Tryz.func75,Tryz.ntmps75
 go_wp2_with fail;refine (Tryz.strings_CutPrefix s ⟨#[45]⟩ _).mono ?_;rintro e w1 ⟨rfl,rfl⟩;rw [show (⟨#[45]⟩:ByteArray).data.toList=[45] from rfl];obtain ⟨d,hd⟩:∃ d:ByteArray,d=⟨(Lib.trimPrefix s.data.toList [45]).toArray⟩:=⟨_,rfl⟩;rw [<- hd];have V:Hid (d.data.toList=Lib.trimPrefix s.data.toList [45]):=by rw [hd];rfl
 have hq:d.size<=s.size:=by rw [hd,tZ,Lib.size_eq];exact iY _ _
 clear hd;obtain ⟨neg,r⟩:∃ b:Bool,b=Lib.hasPrefix s.data.toList [45]:=⟨_,rfl⟩;rw [<- r];have X:=ab r;clear r;go_wp2_with fail;refine (Tryz.strings_Cut d ⟨#[47]⟩ m _ O hf).mono ?_;rintro e w2 ⟨rfl,q2,rfl⟩;rw [show (⟨#[47]⟩:ByteArray).data.toList=[47] from rfl];obtain ⟨up,F⟩:∃ u:ByteArray,u=⟨(Lib.cut d.data.toList [47]).1.toArray⟩:=⟨_,rfl⟩;obtain ⟨dn,G⟩:∃ u:ByteArray,u=⟨(Lib.cut d.data.toList [47]).2.1.toArray⟩:=⟨_,rfl⟩;obtain ⟨P,t⟩:∃ b:Bool,b=(Lib.cut d.data.toList [47]).2.2:=⟨_,rfl⟩;rw [<- F,<- G,<- t];have hj:Hid (up.data.toList=(Lib.cut d.data.toList [47]).1):=by rw [F];rfl
 have Y:Hid (dn.data.toList=(Lib.cut d.data.toList [47]).2.1):=by rw [G];rfl
 have hr:up.size<=s.size:=by
  have:=(ky d.data.toList [47]).1;rw [F,tZ];rw [<- Lib.size_eq] at this;omega
 have hp:dn.size<=s.size:=by
  have:=(ky d.data.toList [47]).2;rw [G,tZ];rw [<- Lib.size_eq] at this;omega
 have he:=ab t;clear F G t;have q:Hid (∀ x:ByteArray,x.data.toList=(if P then dn.data.toList else [49])->ij s.data.toList=if cr up.data.toList && cr x.data.toList then bn neg (bw up.data.toList) (bw x.data.toList) else (false,0,1)):=by
  intro x hx;have e:fM (Lib.trimPrefix s.data.toList [45])=x.data.toList:=by
   unfold fM;rw [hx,<- V,he,Y]
  unfold ij;rw [e,<- V,<- hj,<- X]
 have T:Hid (w.grownBy ((w.alloc (Obj.cells #[Value.bool false,Value.slice none 0 0,Value.slice none 0 0] 105)).drewN q2) none):=ak (ag (ae _ _) _) _;by_cases J:P=true
 ·subst J;have o:=ab (q dn Z);have K:dn.size<=s.size+1:=O
  by_cases ha:cr up.data.toList=true
  ·have i:=ab ha;clear ha;by_cases hb:cr (dn).data.toList=true
   ·have p:=ab hb;clear hb;go_wp2_with (first
     | (go_at_call_of 122 (Value.string up);refine (cl up _ O).mono ?_;rintro e y ⟨rfl,rfl⟩;rw [i])
     | (go_at_call_of 122 (Value.string dn);refine (cl dn _ O).mono ?_;rintro e y ⟨rfl,rfl⟩;rw [p]))
    refine (jS up _ O (dm i)).mono ?_;rintro e y ⟨uv,rfl,Q,n2,n3⟩;have N1:=ab Q;have N2:=ab n2;have N3:=ab n3;obtain ⟨uo,ul,uc,rfl,_,_,_⟩:=Q.shape;clear Q n2 n3;go_wp2_with fail;refine (jS (dn) _ O (dm p)).mono ?_;rintro e w4 ⟨dv,rfl,R,m2,m3⟩;have M1:=ab R;have M:=ab m2;have M3:=ab m3;obtain ⟨ho,dl,dc,rfl,_,_,_⟩:=R.shape;clear R m2 m3;go_wp2_with fail;refine (nD neg _ _ _ _ (s.size+1) _ ((N1.keep0 M).mono O) (M1.mono K) O).mono ?_;intro e w5 hL;obtain ⟨v,rfl,f1,S⟩:=hL;have K5:=ab (aa (aS q2) (aa N2 (aa M S)));have G5:=ab (aa T (aa N2 (aa M S)));have NW:=ab (bF K5);obtain ⟨z,A,B,C,D,E,ev⟩:=f1.shape;have F1:=ab f1;obtain ⟨c0,c1,c2,H⟩:=aW K5;have hk:=H 0;have hl:=H 1;have hm:=H 2;subst ev;have f:=o.out;rw [i,p] at f;simp only [Bool.and_self,if_true] at f;have h:=ab f;obtain ⟨j,l⟩:∃ b:Bool,b=(bn neg (bw up.data.toList) (bw (dn).data.toList)).1:=⟨_,rfl⟩;rw [<- l];have N:=ab l;clear f1 S H o f l;go_wp2;refine bodyPost_ret (v:=.agg #[.bool j,.slice z A B,.slice C D E]) (by simp [results,Tryz.results75,go_sem,c0,c1,c2]) rfl ?_;refine ⟨_,rfl,?_,mH G5 bI zL⟩;rw [h];have:=F1.out.other NW (bI (a:=.bool j) (b:=.slice z A B) (c:=.slice C D E));rw [<- N] at this ⊢
    exact this
   ·have p:Hid (cr (dn).data.toList=false):=ab (by simpa using hb);clear hb;have f:=o.out;rw [i,p] at f;simp at f;have h:=ab f;clear f o;go_wp2_with (first
     | (go_at_call_of 122 (Value.string up);refine (cl up _ O).mono ?_;rintro e y ⟨rfl,rfl⟩;rw [i])
     | (go_at_call_of 122 (Value.string dn);refine (cl dn _ O).mono ?_;rintro e y ⟨rfl,rfl⟩;rw [p]))
    refine bodyPost_ret (v:=.agg #[.bool false,.slice none 0 0,.slice none 0 0]) (by simp [results,Tryz.results75,go_sem]) rfl ?_;exact oT h (mH T bI zL)
  ·have i:Hid (cr up.data.toList=false):=ab (by simpa using ha);clear ha;have f:=o.out;rw [i] at f;simp at f;have h:=ab f;clear f o;go_wp2_with (first
    | (go_at_call_of 122 (Value.string up);refine (cl up _ O).mono ?_;rintro e y ⟨rfl,rfl⟩;rw [i]))
   refine bodyPost_ret (v:=.agg #[.bool false,.slice none 0 0,.slice none 0 0]) (by simp [results,Tryz.results75,go_sem]) rfl ?_;exact oT h (mH T bI zL)
 ·obtain rfl:P=false:=by simpa using J
  clear J;have o:=ab (q (⟨#[49]⟩:ByteArray) (by rfl));have K:(⟨#[49]⟩:ByteArray).size<=s.size+1:=by have:(⟨#[49]⟩:ByteArray).size=1:=rfl;omega
  by_cases ha:cr up.data.toList=true
  ·have i:=ab ha;clear ha;by_cases hb:cr ((⟨#[49]⟩:ByteArray)).data.toList=true
   ·have p:=ab hb;clear hb;go_wp2_with (first
     | (go_at_call_of 122 (Value.string up);refine (cl up _ O).mono ?_;rintro e y ⟨rfl,rfl⟩;rw [i])
     | (go_at_call_of 122 (Value.string (⟨#[49]⟩:ByteArray));refine (cl (⟨#[49]⟩:ByteArray) _ O).mono ?_;rintro e y ⟨rfl,rfl⟩;rw [p]))
    refine (jS up _ O (dm i)).mono ?_;rintro e y ⟨uv,rfl,Q,n2,n3⟩;have N1:=ab Q;have N2:=ab n2;have N3:=ab n3;obtain ⟨uo,ul,uc,rfl,_,_,_⟩:=Q.shape;clear Q n2 n3;go_wp2_with fail;refine (jS ((⟨#[49]⟩:ByteArray)) _ O (dm p)).mono ?_;rintro e w4 ⟨dv,rfl,R,m2,m3⟩;have M1:=ab R;have M:=ab m2;have M3:=ab m3;obtain ⟨ho,dl,dc,rfl,_,_,_⟩:=R.shape;clear R m2 m3;go_wp2_with fail;refine (nD neg _ _ _ _ (s.size+1) _ ((N1.keep0 M).mono O) (M1.mono K) O).mono ?_;intro e w5 hL;obtain ⟨v,rfl,f1,S⟩:=hL;have K5:=ab (aa (aS q2) (aa N2 (aa M S)));have G5:=ab (aa T (aa N2 (aa M S)));have NW:=ab (bF K5);obtain ⟨z,A,B,C,D,E,ev⟩:=f1.shape;have F1:=ab f1;obtain ⟨c0,c1,c2,H⟩:=aW K5;have hk:=H 0;have hl:=H 1;have hm:=H 2;subst ev;have f:=o.out;rw [i,p] at f;simp only [Bool.and_self,if_true] at f;have h:=ab f;obtain ⟨j,l⟩:∃ b:Bool,b=(bn neg (bw up.data.toList) (bw ((⟨#[49]⟩:ByteArray)).data.toList)).1:=⟨_,rfl⟩;rw [<- l];have N:=ab l;clear f1 S H o f l;go_wp2;refine bodyPost_ret (v:=.agg #[.bool j,.slice z A B,.slice C D E]) (by simp [results,Tryz.results75,go_sem,c0,c1,c2]) rfl ?_;refine ⟨_,rfl,?_,mH G5 bI zL⟩;rw [h];have:=F1.out.other NW (bI (a:=.bool j) (b:=.slice z A B) (c:=.slice C D E))
    rw [<- N] at this ⊢;exact this
   ·have p:Hid (cr ((⟨#[49]⟩:ByteArray)).data.toList=false):=ab (by simpa using hb);clear hb;have f:=o.out;rw [i,p] at f;simp at f;have h:=ab f;clear f o;go_wp2_with (first
     | (go_at_call_of 122 (Value.string up);refine (cl up _ O).mono ?_;rintro e y ⟨rfl,rfl⟩;rw [i])
     | (go_at_call_of 122 (Value.string (⟨#[49]⟩:ByteArray));refine (cl (⟨#[49]⟩:ByteArray) _ O).mono ?_;rintro e y ⟨rfl,rfl⟩;rw [p]))
    refine bodyPost_ret (v:=.agg #[.bool false,.slice none 0 0,.slice none 0 0]) (by simp [results,Tryz.results75,go_sem]) rfl ?_;exact oT h (mH T bI zL)
  ·have i:Hid (cr up.data.toList=false):=ab (by simpa using ha);clear ha;have f:=o.out;rw [i] at f;simp at f;have h:=ab f;clear f o;go_wp2_with (first
    | (go_at_call_of 122 (Value.string up);refine (cl up _ O).mono ?_;rintro e y ⟨rfl,rfl⟩;rw [i]))
   refine bodyPost_ret (v:=.agg #[.bool false,.slice none 0 0,.slice none 0 0]) (by simp [results,Tryz.results75,go_sem]) rfl ?_;exact oT h (mH T bI zL)
def mu (w wr:World) (xs ys:List Nat) (i:Nat):Prop :=
 ∃ done:List Nat,done.length=i+ys.length/\Sm done/\bZ wr w.heap.size (done++List.replicate (xs.length-i) 0)/\w.grownBy wr none/\ai done=ai (xs.take i)*ai ys
def lU (w wr:World) (xs ys:List Nat) (i j x c:Nat):Prop :=
 ∃ done mid:List Nat,done.length=i+ys.length/\mid.length=j/\Sm done/\Sm mid/\bZ wr w.heap.size (done.take i++mid++done.drop (i+j)++List.replicate (xs.length-i) 0)/\w.grownBy wr none /\
  ai done=ai (xs.take i)*ai ys/\ai mid+4294967296^j*c=ai ((done.drop i).take j)+x*ai (ys.take j)
def mu.inn {i:Nat} (h:mu w wr xs ys i) (x:Nat):lU w wr xs ys i 0 x 0:=by
 obtain ⟨done,a,b,c,e,f⟩:=h;refine ⟨done,[],a,rfl,b,Sm.nil,?_,e,f,by simp [ai]⟩;rw [List.append_nil,Nat.add_zero,List.take_append_drop];exact c
def lU.at {i j x c:Nat} (h:lU w wr xs ys i j x c) (s:j<ys.length) :
  ∃ r,r<4294967296/\wr.cell? ⟨w.heap.size,i+j,none⟩=some (.int .u32 (r:Nat))/\wr.frozen? ⟨w.heap.size,i+j,none⟩=false /\
   ∀ (y:Nat) (z:Int),y=ys[j]->z=(((c+(x*y+r)) % 4294967296:Nat):Int)->lU w (wr.setCell ⟨w.heap.size,i+j,none⟩ (.int .u32 z)) xs ys i (j+1) x ((c+(x*y+r)) / 4294967296):=by
 obtain ⟨done,a,A,b,q,o,p,B,C,D⟩:=h;have hd:i+j<done.length:=O
 have e:done.drop (i+j)=done[i+j] :: done.drop (i+j+1):=List.drop_eq_getElem_cons hd;have f:(done.take i).length=i:=by rw [List.length_take];omega
 have l:(done.take i++a++done.drop (i+j)++List.replicate (xs.length-i) 0)[i+j]? = some done[i+j]:=by
  rw [List.append_assoc,List.getElem?_append_right (by simp [f,b]),e];have m:i+j-(done.take i++a).length=0:=by simp [f,b]
  rw [m];rfl
 have hlt:i+j<(done.take i++a++done.drop (i+j)++List.replicate (xs.length-i) 0).length:=(zY l).1;refine ⟨done[i+j],q.get _ hd,?_,p.free _,?_⟩
 ·rw [p.cell (i+j) hlt,(zY l).2]
 ·intro y z hy u;refine ⟨done,a++[(c+(x*y+done[i+j])) % 4294967296],A,by simp [b],q,o.snoc _,?_,ah B _ _ zL,C,?_⟩
  ·have:=p.set (i+j) ((c+(x*y+done[i+j])) % 4294967296);rw [u];have t:(done.take i++a++done.drop (i+j)++List.replicate (xs.length-i) 0).set (i+j) ((c+(x*y+done[i+j])) % 4294967296)
     = done.take i++(a++[(c+(x*y+done[i+j])) % 4294967296])++done.drop (i+(j+1))++List.replicate (xs.length-i) 0:=by
    rw [e,List.append_assoc,List.set_append_right _ _ (by simp [f,b])];have m:i+j-(done.take i++a).length=0:=by simp [f,b]
    rw [m];simp [Nat.add_assoc]
   rw [t] at this;exact this
  ·rw [aR,b,Nat.pow_succ,Nat.add_assoc,fL,Nat.mul_add,<- Nat.add_assoc,D,au ys j s,<- hy,
    au (done.drop i) j (by rw [List.length_drop];omega),List.getElem_drop,Nat.mul_add (4294967296^j),Nat.mul_add x]
   rw [show x*(4294967296^j*y)=4294967296^j*(x*y) from by rw [Nat.mul_left_comm]];omega
def lU.out {i x c:Nat} (h:lU w wr xs ys i ys.length x c) (hi:i<xs.length) (m:x=xs[i]) (hc:c<4294967296) (z:Int) (o:z=(c:Int)) :
  wr.frozen? ⟨w.heap.size,i+ys.length,none⟩=false/\(∃ v,wr.cell? ⟨w.heap.size,i+ys.length,none⟩=some v) /\
  mu w (wr.setCell ⟨w.heap.size,i+ys.length,none⟩ (.int .u32 z)) xs ys (i+1):=by
 obtain ⟨done,e,y,b,r,j,f,s,t,u⟩:=h;have a:(done.take i).length=i:=by rw [List.length_take];omega
 have p:done.drop (i+ys.length)=[]:=List.drop_of_length_le O;rw [p,List.append_nil] at f;have l:(done.take i++e).length=i+ys.length:=by simp [a,b]
 refine ⟨f.free _,⟨_,f.cell (i+ys.length) (by simp [a,b];omega)⟩,?_⟩;have:=f.set (i+ys.length) c;rw [dM _ _ _ _ l O] at this;rw [o];refine ⟨done.take i++e++[c],by simp [a,b];omega,((r.take _).append j).append (Sm.cons hc Sm.nil),?_,ah s _ _ zL,?_⟩
 ·rw [show xs.length-(i+1)=xs.length-i-1 from O];exact this
 ·rw [aR,l,bN,a,Nat.pow_add,Nat.mul_assoc,Nat.add_assoc,<- Nat.mul_add,u,show (done.drop i).take ys.length=done.drop i from zT (by rw [List.length_drop];omega),show ys.take ys.length=ys from zT zL,
   au xs i hi,<- m,Nat.add_mul,<- t,Nat.mul_add,<- Nat.add_assoc]
  have q:ai done=ai (done.take i)+4294967296^i*ai (done.drop i):=by
   have:=bN (done.take i) (done.drop i);rw [List.take_append_drop,a] at this;exact this
  rw [q,Nat.mul_assoc]
def uj (J K:Value) (xs ys:List Nat) (w:World) (ha:Ws w J xs) (hb:Ws w K ys) (hl:xs.length+ys.length<=10000000000000) :
  Calls Tryz.prog 100 #[J,K] w fun e w'=>∃ v',e=.returned v'/\ir w' w.heap.size v' (ai xs*ai ys) (xs.length+ys.length)/\w.grownBy w' none:=by
 obtain ⟨ao,ca,rfl,ho,s,N⟩:=ha.open;obtain ⟨bo,cb,rfl,hq,t,P⟩:=hb.open;unfold maxLen at s t;have T:=ab N;have U:=ab P;have V:=ab ha.sm;have X:=ab hb.sm;clear N P ha hb;go_enter Tryz.func100,Tryz.ntmps100
 go_wp2_with (at_make;refine aE _ rfl _ _ 103 rfl Tryz.underlying103 Tryz.info32 _ _ _ _ (xs.length+ys.length) rfl rfl O O O ?_)
 intro w1 m q;have Y:=ab m;have HG:=ab q;clear m q;go_wp2;go_loopw [19] (fun i wr=>∃ k:Nat,k<=xs.length/\i=.int .i64 k/\Hid (mu w wr xs ys k)) (fun i _=>xs.length-(intOf i).toNat)
 case atStart=>exact ⟨0,Nat.zero_le _,rfl,List.replicate ys.length 0,Z,Sm.replicate _,by
  have:=Y.out;rw [Nat.add_comm,<- List.replicate_append_replicate] at this;exact this,HG,by simp [ai,iZ]⟩
 case round =>
  obtain ⟨i,hk,rfl,A⟩:=hrel;by_cases hlt:i<xs.length
  ·obtain ⟨b,off,rfl,hs,a⟩:=aG T i hlt;have C:=(aG V).get i hlt;obtain ⟨x,ex⟩:=eX (xs[i]);rw [<- ex] at a C;have EX:=ab ex;have HC:=ab a;have p:wr.cell? ⟨b,off+i,none⟩=some (.int .u32 (x:Nat)):=by
    obtain ⟨_,_,_,_,u,_⟩:=A.out;exact u.cell a Z
   clear ex a;go_wp2;clear p;go_loopw [8,26] (fun cv I wr=>∃ j c:Nat,j<=ys.length/\c<4294967296/\I=.int .i64 j/\cv=.int .u64 c/\Hid (lU w wr xs ys i j x c)) (fun _ I _=>ys.length-(intOf I).toNat)
   case atStart=>exact ⟨0,0,Nat.zero_le _,O,rfl,rfl,mu.inn A x⟩
   case round =>
    clear A;obtain ⟨j,c,hj,hc,rfl,rfl,E⟩:=hrel;have hg:w.grownBy wr none:=by
     obtain ⟨_,_,_,_,_,_,_,u,_,_⟩:=E.out;exact u
    by_cases h:j<ys.length
    ·obtain ⟨b2,z,rfl,Q,f⟩:=aG U j h;have hy:=(aG X).get j h;obtain ⟨y,F⟩:=eX (ys[j]);rw [<- F] at f hy;have he:wr.cell? ⟨b2,z+j,none⟩=some (.int .u32 (y:Nat)):=hg.cell f Z;have hf:wr.cell? ⟨b,off+i,none⟩=some (.int .u32 (x:Nat)):=hg.cell HC Z;obtain ⟨r,hr,hu,G,l⟩:=E.out.at h;have HS:=ab (l y);have EY:=ab F;have hp:(x:Int)*(y:Int)<=18446744065119617025:=mb x y C hy;have hm:0<=(x:Int)*(y:Int):=Int.mul_nonneg O O;clear f l F hg;go_wp2;go_roundw
     case rel=>exact ⟨j+1,(c+(x*y+r)) / 4294967296,O,uM x y c r C hy hc hr,zN,by rw [pO],HS _ EY (by rw [nQ])⟩
     case measure=>exact bH
    ·obtain rfl:j=ys.length:=O
     obtain ⟨G,⟨v0,hv⟩,o⟩:=E.out.out hlt EX hc _ rfl;have HO:=ab o;clear o;go_wp2;go_roundw
     case rel=>exact ⟨i+1,O,zN,HO⟩
     case measure=>exact bH
  ·obtain rfl:i=xs.length:=O
   go_wp2_with fail;obtain ⟨done,B,R,H,u,S⟩:=A.out;rw [Nat.sub_self,List.replicate_zero,List.append_nil] at H;have D:=H.own (base:=w.heap.size) zL (by rw [B];unfold maxLen;omega);have H1:=ab B;have M:=ab R;have H3:=ab S;rw [B] at D;clear B S H R;refine (lk _ done _ w.heap.size D M).mono ?_;rintro e w2 ⟨v',rfl,rfl,k1,k2⟩;clear D;go_wp2;go_ret;refine ⟨v',rfl,⟨_,k1,M.out.trimL,Tr.trimL _,?_,?_⟩,u⟩
   ·rw [fh,H3,zT zL]
   ·have:=aZ done;rw [H1] at this;exact this
def Cv (a b:Value) (m n L M:Nat) (w:World) (ha:aT w a m L) (hb:aT w b n M) (o:L+M<=10000000000000) :
  Calls Tryz.prog 100 #[a,b] w fun e w'=>∃ v',e=.returned v'/\ir w' w.heap.size v' (m*n) (L+M)/\w.grownBy w' none:=by
 obtain ⟨xs,f,p,h,q⟩:=ha;obtain ⟨ys,i,r,j,s⟩:=hb;refine (uj a b xs ys w f i O).mono ?_;rintro e w' ⟨v',rfl,c,l⟩;rw [h,j] at c;exact ⟨v',rfl,c.mono O,l⟩
def fg (a b:Value) (m n L M:Nat) (w:World) (ha:aT w a m L) (hb:aT w b n M) (f:L+M<=10000000000000) :
  Calls Tryz.prog 100 #[a,b] w fun e w'=>∃ v',e=.returned v'/\aT w' v' (m*n) (L+M)/\w.grownBy w' none/\bC w v':=by
 refine (Cv a b m n L M w ha hb f).mono ?_;rintro e w' ⟨v',rfl,c,h⟩;exact ⟨v',rfl,c.num,h,fun k i=>(c.fresh k i).1⟩
def BE (c:Tr xs) (h:ai xs<4294967296^L):xs.length<=L:=by
 by_cases b:xs=[]
 ·subst b;simp
 ·have e:=jz c b;have f:xs.length-1<L:=(Nat.pow_lt_pow_iff_right (a:=4294967296) zD).1 (Nat.lt_of_le_of_lt e h);have:0<xs.length:=List.length_pos_iff.2 b;omega
def aT.tight {L':Nat} (h:aT w v n L) (hn:n<4294967296^L'):aT w v n L':=by
 obtain ⟨xs,c,a,b,e⟩:=h;exact ⟨xs,c,a,b,BE a (by rw [b];exact hn)⟩
def fZ {w1 a:World} {r:Option Nat} (h:w.grownBy w1 none) (k:w1.grownBy a r) (hb:∀ b,r=some b->w.heap.size<=b):w.grownBy a none :=
 aw h k (fun _ _ e=>e) (fun b c e=>by have:=hb b e.symm;omega)
def aH {u x:Value} (h:(w.alloc (Obj.cells #[u,v,x] 105)).grownBy W none):W.cell? ⟨w.heap.size,0,none⟩=some u/\W.cell? ⟨w.heap.size,1,none⟩=some v/\W.cell? ⟨w.heap.size,2,none⟩=some x:=by
 have e:W.heap[w.heap.size]? = some (Obj.cells #[u,v,x] 105 (0,0)):=by
  rw [h.block w.heap.size Z Z];exact heap_alloc_new w _
 refine ⟨?_,?_,?_⟩<;>simp [World.cell?,e]
def Aj (w:World):aT (w.alloc (Obj.cells #[Value.int IntKind.u32 1] 174)) (.slice (some ⟨w.heap.size,0,none⟩) 1 1) 1 1:=by
 have ha:bZ (w.alloc (Obj.cells #[Value.int IntKind.u32 1] 174)) w.heap.size [1]:=by
  unfold bZ;show (w.heap.push _)[w.heap.size]? = _
  rw [Array.getElem?_push_size];rfl
 exact ⟨[1],ha.ws (Sm.cons zD Sm.nil) (by unfold maxLen;simp),by simp [Tr,aQ],by simp [ai],Z⟩
def NumE (w:World) (n L:Nat) (e:Ending) (w':World):Prop:=∃ v,e=.returned v/\aT w' v n L/\w.grownBy w' none
def fK (x:Value) (neg:Bool) (n d L:Nat) (w:World) (o:FV w x neg n d L) :
  Calls Tryz.prog 101 #[x] w fun e w'=>NumE w d (L+1) e w':=by
 obtain ⟨up,b,rfl,h1,a,c,f⟩:=o;obtain ⟨h,i,j,rfl,_⟩:=h1.shape;rcases a with ⟨rfl,rfl⟩ | ⟨a,hd⟩
 ·clear h1 c f;go_enter Tryz.func101,Tryz.ntmps101
  go_wp2;go_ret;have h1:=Aj (w.alloc (Obj.cells #[.bool neg,.slice h i j,.slice none 0 0] 105));have p:(w.alloc (Obj.cells #[.bool neg,.slice h i j,.slice none 0 0] 105)).heap.size=w.heap.size+1:=Z
  rw [p] at h1;exact ⟨_,rfl,aT.mono (L:=1) (L':=L+1) h1 (Nat.le_add_left 1 L),ag (ag (ae _ _) _) _⟩
 ·obtain ⟨r,l,t,rfl,m,u,s⟩:=a.shape;unfold maxLen at s;have hb:(((l:Nat):Int)==0)=false:=zB (by
   intro e;have:l=0:=O
   have:=m.1 this;omega)
  have q:=ab a;clear h1 a c f m;go_enter Tryz.func101,Tryz.ntmps101
  go_wp2;go_ret;exact ⟨_,rfl,(q.keep0 (ag (ae _ _) _)).mono O,ag (ae _ _) _⟩
def cL (a:Option Addr) (c f:Nat) (b:Bool) (w:World) :
  Calls Tryz.prog 131 #[.agg #[.bool b,.slice a c f,.slice none 0 0]] w fun e w'=>e=.returned (.bool true)/\w.grownBy w' none:=by
 go_enter Tryz.func131,Tryz.ntmps131
 go_wp2;go_ret;exact ⟨rfl,ag (ae _ _) _⟩
def fO (i c:Option Addr) (j l a f:Nat) (b:Bool) (w:World) (h:0<a) (o:a<=f) (m:f<=maxLen) :
  Calls Tryz.prog 131 #[.agg #[.bool b,.slice i j l,.slice c a f]] w fun e w'=>e=.returned (.bool false)/\w.grownBy w' none:=by
 unfold maxLen at m;have hb:(((a:Nat):Int)==0)=false:=zB O;go_enter Tryz.func131,Tryz.ntmps131
 go_wp2;go_ret;exact ⟨rfl,ag (ae _ _) _⟩
def oO (x y:Value) (n m L:Nat) (w:World) (a:aT w x n L) (hy:aT w y m L) (q:0<n∨0<m) (b:L<=8000000000000) :
  Calls Tryz.prog 133 #[x,y] w fun e w'=>GcdE w (Nat.gcd n m) L e w':=by
 obtain ⟨xs,c,f,h,i⟩:=a;obtain ⟨ys,j,l,o,p⟩:=hy;rw [<- h,<- o];exact ji x y xs ys w c j f l O L i p b
def yj (b:Bool) (k A B:Nat) (c:0<k):bn b (k*A) (k*B)=bn b A B:=by
 unfold bn;rw [Nat.gcd_mul_left];by_cases h:A=0∨B=0
 ·have a:k*A=0∨k*B=0:=by
   rcases h with h | h
   ·exact .inl (by rw [h,Nat.mul_zero])
   ·exact .inr (by rw [h,Nat.mul_zero])
  rw [if_pos h,if_pos a]
 ·have a:¬ (k*A=0∨k*B=0):=by
   intro a;rcases a with a | a <;> rcases Nat.mul_eq_zero.1 a with e | e
   ·omega
   ·exact h (.inl e)
   ·omega
   ·exact h (.inr e)
  rw [if_neg h,if_neg a,Nat.mul_div_mul_left _ _ c,Nat.mul_div_mul_left _ _ c]
def og (b:Bool) (n m:Nat) (a:0<n) (c:0<m) (h:Nat.gcd n m=1):bn b n m=(b,n,m):=by
 unfold bn;rw [if_neg O,h,Nat.div_one,Nat.div_one]
def zi {a b l:Nat} (h:Nat.gcd a b=1) (c:k∣a) (e:l∣b):Nat.Coprime (a / k) (b / l) :=
 Nat.Coprime.coprime_dvd_left (Nat.div_dvd_of_dvd c) (Nat.Coprime.coprime_dvd_right (Nat.div_dvd_of_dvd e) h)
def Bb {c a e b:Nat} (f:Nat.gcd c a=1) (h:Nat.gcd e b=1) (i:0<a) (j:0<b) :
  Nat.gcd (c / Nat.gcd c b*(e / Nat.gcd e a)) (a / Nat.gcd e a*(b / Nat.gcd c b))=1:=by
 have l:0<Nat.gcd c b:=Nat.gcd_pos_of_pos_right _ j;have m:0<Nat.gcd e a:=Nat.gcd_pos_of_pos_right _ i;have o:=zi f (Nat.gcd_dvd_left c b) (Nat.gcd_dvd_right e a);have p:Nat.Coprime (c / Nat.gcd c b) (b / Nat.gcd c b):=Nat.coprime_div_gcd_div_gcd l;have q:Nat.Coprime (e / Nat.gcd e a) (a / Nat.gcd e a):=Nat.coprime_div_gcd_div_gcd m;have r:=zi h (Nat.gcd_dvd_left e a) (Nat.gcd_dvd_right c b);exact Nat.Coprime.mul_left (Nat.Coprime.mul_right o p) (Nat.Coprime.mul_right q r)
def Bc (b:Bool) {e a f c:Nat} (h:0<a) (i:0<c) :
  bn b (e / Nat.gcd e c*(f / Nat.gcd f a)) (a / Nat.gcd f a*(c / Nat.gcd e c))=bn b (e*f) (a*c):=by
 have j:0<Nat.gcd e c:=Nat.gcd_pos_of_pos_right _ i;have l:0<Nat.gcd f a:=Nat.gcd_pos_of_pos_right _ h;rw [<- yj b (Nat.gcd e c*Nat.gcd f a) _ _ (Nat.mul_pos j l)];have m:=Nat.mul_div_cancel' (Nat.gcd_dvd_left e c);have o:=Nat.mul_div_cancel' (Nat.gcd_dvd_left f a);have p:=Nat.mul_div_cancel' (Nat.gcd_dvd_right e c);have q:=Nat.mul_div_cancel' (Nat.gcd_dvd_right f a);congr 1
 ·rw [Nat.mul_mul_mul_comm,m,o]
 ·rw [Nat.mul_comm (a / _),Nat.mul_mul_mul_comm,p,q,Nat.mul_comm]
def kX (a:Bool) (u d:Value) (n m L:Nat) (w:World) (j:aT w u n L) (hd:aT w d m L) (D:0<m) (hc:n=0∨Nat.gcd n m=1) :
  Calls Tryz.prog 135 #[.bool a,u,d] w fun e w'=>gQ w (bn a n m).1 (bn a n m).2.1 (bn a n m).2.2 L e w':=by
 obtain ⟨A,f,B,rfl,u1,u2,u3⟩:=j.shape;obtain ⟨r,G,H,rfl,C,K,I⟩:=hd.shape;unfold maxLen at u3 I;have s:w.grownBy (w.alloc (Obj.cells #[Value.bool false,Value.slice none 0 0,Value.slice none 0 0] 105)) none:=ag (ae w none) _;have t:=ab s;clear s;by_cases l:n=0
 ·subst l;obtain rfl:f=0:=u1.2 rfl;have e:bn a 0 m=(false,0,1):=by unfold bn;rw [if_pos (.inl rfl)]
  rw [e];have c:gQ w false 0 1 L (.returned (.agg #[.bool false,.slice none 0 0,.slice none 0 0])) (w.alloc (Obj.cells #[Value.bool false,Value.slice none 0 0,Value.slice none 0 0] 105)) :=
   ⟨_,rfl,⟨_,_,rfl,⟨[],Ws.nil _,rfl,rfl,Z⟩,.inl ⟨rfl,rfl⟩,rfl,Z⟩,ag (ae _ _) _⟩
  have i:=ab c;clear c j hd u1 C hc e;go_enter Tryz.func135,Tryz.ntmps135
  go_wp2;exact bodyPost_ret (v:=.agg #[.bool false,.slice none 0 0,.slice none 0 0]) (by simp [results,Tryz.results135,go_sem]) rfl i
 ·have E:0<f:=by
   rcases zP f with h | h
   ·exact absurd (u1.1 h) l
   ·exact h
  have F:(((f:Nat):Int)==0)=false:=zB O;have hg:Nat.gcd n m=1:=by
   rcases hc with h | h
   ·exact absurd h l
   ·exact h
  rw [og a n m O D hg];have x:=ab j;have p:=ab hd;have y:=ab hg;have z:Hid (0<n):=by show 0<n;omega
  clear j hd u1 C hc hg l;by_cases o:m=1
  ·have b:=ab o;clear o;go_enter Tryz.func135,Tryz.ntmps135
   go_wp2_with fail;refine (rU _ L _ (by have:=p.out.keep0 t;rw [b] at this;exact this)).mono ?_;rintro e J ⟨rfl,rfl⟩;go_wp2;refine bodyPost_ret (v:=.agg #[.bool a,.slice A f B,.slice none 0 0]) (by simp [results,Tryz.results135,go_sem]) rfl ?_;exact ⟨_,rfl,⟨_,_,rfl,x.keep0 (ag (ae _ _) _),.inl ⟨rfl,b⟩,y,fun _=>z⟩,ag (ae _ _) _⟩
  ·have b:=ab o;have q:Hid (1<m):=by show 1<m;omega
   clear o;go_enter Tryz.func135,Tryz.ntmps135
   go_wp2_with fail;refine (vk _ m L _ (p.keep0 t) b).mono ?_;rintro e J ⟨rfl,rfl⟩;go_wp2;refine bodyPost_ret (v:=.agg #[.bool a,.slice A f B,.slice r G H]) (by simp [results,Tryz.results135,go_sem]) rfl ?_;exact ⟨_,rfl,⟨_,_,rfl,x.keep0 (ag (ae _ _) _),.inr ⟨p.keep0 (ag (ae _ _) _),q⟩,y,fun _=>z⟩,ag (ae _ _) _⟩
def aC : w.grownBy w.drew none:=ak (ae _ _) 1
def aT.lt (h:aT w v n L):n<4294967296^L:=by
 obtain ⟨xs,a,e,b,c⟩:=h;rw [<- b];exact Nat.lt_of_lt_of_le (bD a.sm) (Nat.pow_le_pow_right zD c)
def FV.down_le {b:Bool} (h:FV w v b n d L):0<d/\d<=4294967296^L:=by
 obtain ⟨up,c,_,_,a,_,_⟩:=h;rcases a with ⟨_,rfl⟩ | ⟨a,e⟩
 ·exact ⟨zD,Nat.pow_pos zD⟩
 ·exact ⟨O,Nat.le_of_lt a.lt⟩
def FV.cop {b:Bool} (h:FV w v b n d L):Nat.gcd n d=1:=by
 obtain ⟨up,a,_,_,_,h,_⟩:=h;exact h
def nI (h:n<=4294967296^L):n<4294967296^(L+1):=by
 have:=(Nat.pow_lt_pow_iff_right (a:=4294967296) zD).2 (Nat.lt_succ_self L);exact Nat.lt_of_le_of_lt h this
def tA (j p:Option Addr) (l m q r:Nat) (b c:Bool) (f s h t:Nat) (w:World) (I:aT w (.slice j l m) f s) (hy:aT w (.slice p q r) h t) (hl:s+t<=7000000000000) :
  Calls Tryz.prog 87 #[.agg #[.bool b,.slice j l m,.slice none 0 0],.agg #[.bool c,.slice p q r,.slice none 0 0]] w fun e w'=>gQ w (bn (b != c) (f*h) 1).1 (bn (b != c) (f*h) 1).2.1 (bn (b != c) (f*h) 1).2.2 (s+t+1) e w':=by
 have X:=ab I;have Y:=ab hy;clear I hy;obtain ⟨W,u⟩:=eX (((w.alloc (Obj.cells #[.bool b,.slice j l m,.slice none 0 0] 105)).alloc (Obj.cells #[.bool c,.slice p q r,.slice none 0 0] 105)).alloc (Obj.cells #[.bool false,.slice none 0 0,.slice none 0 0] 105));have z:Hid (w.grownBy W none):=by rw [u];exact ag (ag (ag (ae _ _) _) _) _
 have NW:Hid (∀ wx,W.grownBy wx none->bR wx (w.heap.size+1+1)):=by
  intro wx hg;rw [u] at hg;have:=bF hg;simpa using this
 have a:Hid (∀ wx,W.grownBy wx none->(wx.cell? ⟨w.heap.size,0,none⟩=some (.bool b)/\wx.cell? ⟨w.heap.size,1,none⟩=some (.slice j l m)/\wx.cell? ⟨w.heap.size,2,none⟩=some (.slice none 0 0))/\(wx.cell? ⟨w.heap.size+1,0,none⟩=some (.bool c)/\wx.cell? ⟨w.heap.size+1,1,none⟩=some (.slice p q r)/\wx.cell? ⟨w.heap.size+1,2,none⟩=some (.slice none 0 0))/\(wx.cell? ⟨w.heap.size+1+1,0,none⟩=some (.bool false)/\wx.cell? ⟨w.heap.size+1+1,1,none⟩=some (.slice none 0 0)/\wx.cell? ⟨w.heap.size+1+1,2,none⟩=some (.slice none 0 0))/\∀ i,wx.frozen? ⟨w.heap.size+1+1,i,none⟩=false):=by
  intro wx hg;rw [u] at hg;have J:=aH (aa (ag (ag (ae _ none) _) _) hg);have K:=aH (w:=w.alloc (Obj.cells #[.bool b,.slice j l m,.slice none 0 0] 105)) (aa (ag (ae _ none) _) hg);have o:=aW hg;have e3:((w.alloc (Obj.cells #[.bool b,.slice j l m,.slice none 0 0] 105)).alloc (Obj.cells #[.bool c,.slice p q r,.slice none 0 0] 105)).heap.size=w.heap.size+1+1:=Z
  rw [e3] at o;refine ⟨J,by simpa using K,?_,?_⟩
  ·exact ⟨o.1,o.2.1,o.2.2.1⟩
  ·exact o.2.2.2
 obtain ⟨⟨s0,s1,s2⟩,⟨t0,t1,t2⟩,⟨r0,r1,r2⟩,rf⟩:=a.out W (ae _ _);clear rf;have M:¬ w.heap.size+1+1=w.heap.size:=O
 have N:¬ w.heap.size=w.heap.size+1+1:=O
 have P:¬ w.heap.size+1+1=w.heap.size+1:=O
 go_enter Tryz.func87,Tryz.ntmps87
 go_wp2_with fail;rw [<- u];clear u;refine (cL _ _ _ _ _).mono ?_;rintro e w1 ⟨rfl,y⟩;have G1:=ab y;obtain ⟨⟨a0,J,K⟩,⟨o,a4,a5⟩,_⟩:=a.out w1 y;clear y;go_wp2_with fail;refine (cL _ _ _ _ _).mono ?_;rintro e w2 ⟨rfl,C⟩;have x:=ab (aa G1 C);obtain ⟨⟨c0,c1,c2⟩,⟨c3,c4,c5⟩,_⟩:=a.out w2 x;clear C;go_wp2_with fail;refine (fg _ _ f h s t _ (X.keep0 (aa z x)) (Y.keep0 (aa z x)) O).mono ?_;rintro e D ⟨v3,rfl,E,Q,p3⟩;obtain ⟨xo,xl,xc,rfl,_,_,_⟩:=E.shape;have P1:=ab E;have G3:=ab (aa x Q);clear E Q p3;go_wp2_with fail;have A:D.grownBy (D.alloc (Obj.cells #[Value.int IntKind.u32 1] 174)) none:=ag (ae _ _) _;have GA:=ab (aa G3 A);have P2:=ab (P1.keep0 A);clear A;refine (kX _ _ _ (f*h) 1 (s+t+1) _ (P2.mono O) ((Aj D).mono O) zD (.inr (Nat.gcd_one_right _))).mono ?_;rintro e R ⟨v6,rfl,f1,S⟩;obtain ⟨fo,fl,fc,F,G,H,rfl⟩:=f1.shape;have F1:=ab f1;have B:=ab (aa GA S);clear f1 S;obtain ⟨⟨g0,y,C⟩,⟨g3,g4,g5⟩,⟨T,U,V⟩,gf⟩:=a.out R B;have he:=gf 0;have hf:=gf 1;have hj:=gf 2;clear gf;go_wp2;refine bodyPost_ret (v:=.agg #[.bool (bn (b != c) (f*h) 1).1,.slice fo fl fc,.slice F G H]) (by first | (simp [results,Tryz.results87,go_sem,T,U,V];done) | (simp [results,Tryz.results87,go_sem,T,U,V];rfl)) rfl ?_;exact ⟨_,rfl,F1.other (NW R B) bI,ah (ah (ah (aa z B) _ _ (by simp;omega)) _ _ (by simp;omega)) _ _ (by simp;omega)⟩
def nZ (y D p Q:Option Addr) (z A E F G H R S:Nat) (s t:Bool) (N T q P U r:Nat) (w:World) (hx:FV w (.agg #[.bool s,.slice y z A,.slice p G H]) s N T q) (hy:FV w (.agg #[.bool t,.slice D E F,.slice Q R S]) t P U r) (hl:q+r<=7000000000000)
  (hwh:∀ wx:World,(Calls Tryz.prog 131 #[.agg #[.bool s,.slice y z A,.slice p G H]] wx fun e w'=>e=.returned (.bool false)/\wx.grownBy w' none)∨((Calls Tryz.prog 131 #[.agg #[.bool s,.slice y z A,.slice p G H]] wx fun e w'=>e=.returned (.bool true)/\wx.grownBy w' none)/\∀ wx:World,Calls Tryz.prog 131 #[.agg #[.bool t,.slice D E F,.slice Q R S]] wx fun e w'=>e=.returned (.bool false)/\wx.grownBy w' none)) :
  Calls Tryz.prog 87 #[.agg #[.bool s,.slice y z A,.slice p G H],.agg #[.bool t,.slice D E F,.slice Q R S]] w fun e w'=>gQ w (bn (s != t) (N*P) (T*U)).1 (bn (s != t) (N*P) (T*U)).2.1 (bn (s != t) (N*P) (T*U)).2.2 (q+r+1) e w':=by
 have HX:=ab hx;have HY:=ab hy;obtain ⟨I,V⟩:=hx.down_le;obtain ⟨J,X⟩:=hy.down_le;have hw:=hx.cop;have hz:=hy.cop;have NX:Hid (aT w (.slice y z A) N q):=by
  obtain ⟨up,hH,e,h1,_⟩:=hx;simp only [Value.agg.injEq,Array.mk.injEq,List.cons.injEq,and_true,true_and] at e;rw [e.1];exact h1
 have NY:Hid (aT w (.slice D E F) P r):=by
  obtain ⟨up,hH,e,h1,_⟩:=hy;simp only [Value.agg.injEq,Array.mk.injEq,List.cons.injEq,and_true,true_and] at e;rw [e.1];exact h1
 clear hx hy;obtain ⟨G1,K⟩:=eX (Nat.gcd N U);obtain ⟨G2,M⟩:=eX (Nat.gcd P T);have hA:0<G1:=by rw [K];exact Nat.gcd_pos_of_pos_right _ J
 have hB:0<G2:=by rw [M];exact Nat.gcd_pos_of_pos_right _ I
 obtain ⟨X1,Y⟩:=eX (N / G1);obtain ⟨X2,he⟩:=eX (P / G2);obtain ⟨Y1,B⟩:=eX (T / G2);obtain ⟨Y2,C⟩:=eX (U / G1);have yc:X1<4294967296^q:=by rw [Y];exact Nat.lt_of_le_of_lt (Nat.div_le_self _ _) NX.lt
 have yl:X2<4294967296^r:=by rw [he];exact Nat.lt_of_le_of_lt (Nat.div_le_self _ _) NY.lt
 have yn:Y1<4294967296^(q+1):=by rw [B];exact nI (Nat.le_trans (Nat.div_le_self _ _) V)
 have yo:Y2<4294967296^(r+1):=by rw [C];exact nI (Nat.le_trans (Nat.div_le_self _ _) X)
 have yv:Y1*Y2<4294967296^(q+r+1):=by
  refine nI ?_;rw [Nat.pow_add,B,C];exact Nat.mul_le_mul (Nat.le_trans (Nat.div_le_self _ _) V) (Nat.le_trans (Nat.div_le_self _ _) X)
 have jc:0<Y1*Y2:=by
  rw [B,C,K,M];exact Nat.mul_pos (Nat.div_pos (Nat.gcd_le_right _ I) (Nat.gcd_pos_of_pos_right _ I)) (Nat.div_pos (Nat.gcd_le_right _ J) (Nat.gcd_pos_of_pos_right _ J))
 have hC:Hid (X1*X2=0∨Nat.gcd (X1*X2) (Y1*Y2)=1):=.inr (by rw [Y,he,B,C,K,M];exact Bb hw hz I J);have HQ:Hid (bn (s != t) (X1*X2) (Y1*Y2)=bn (s != t) (N*P) (T*U)):=by show _=_;rw [Y,he,B,C,K,M];exact Bc _ I J
 have jg:=ab Y;have jk:=ab he;have jl:=ab B;have jo:=ab C;have jp:=ab K;have jv:=ab M;rw [<- HQ];clear HQ Y he B C K M hw hz V X;obtain ⟨W,hW⟩:=eX (((w.alloc (Obj.cells #[.bool s,.slice y z A,.slice p G H] 105)).alloc (Obj.cells #[.bool t,.slice D E F,.slice Q R S] 105)).alloc (Obj.cells #[.bool false,.slice none 0 0,.slice none 0 0] 105));have GW:Hid (w.grownBy W none):=by rw [hW];exact ag (ag (ag (ae _ _) _) _) _
 have NW:Hid (∀ wx,W.grownBy wx none->bR wx (w.heap.size+1+1)):=by
  intro wx hg;rw [hW] at hg;have:=bF hg;simpa using this
 have b:Hid (∀ wx,W.grownBy wx none->(wx.cell? ⟨w.heap.size,0,none⟩=some (.bool s)/\wx.cell? ⟨w.heap.size,1,none⟩=some (.slice y z A)/\wx.cell? ⟨w.heap.size,2,none⟩=some (.slice p G H))/\(wx.cell? ⟨w.heap.size+1,0,none⟩=some (.bool t)/\wx.cell? ⟨w.heap.size+1,1,none⟩=some (.slice D E F)/\wx.cell? ⟨w.heap.size+1,2,none⟩=some (.slice Q R S))/\(wx.cell? ⟨w.heap.size+1+1,0,none⟩=some (.bool false)/\wx.cell? ⟨w.heap.size+1+1,1,none⟩=some (.slice none 0 0)/\wx.cell? ⟨w.heap.size+1+1,2,none⟩=some (.slice none 0 0))/\∀ i,wx.frozen? ⟨w.heap.size+1+1,i,none⟩=false):=by
  intro wx hg;rw [hW] at hg;have a1:=aH (aa (ag (ag (ae _ none) _) _) hg);have a2:=aH (w:=w.alloc (Obj.cells #[.bool s,.slice y z A,.slice p G H] 105)) (aa (ag (ae _ none) _) hg);have a3:=aW hg;have e3:((w.alloc (Obj.cells #[.bool s,.slice y z A,.slice p G H] 105)).alloc (Obj.cells #[.bool t,.slice D E F,.slice Q R S] 105)).heap.size=w.heap.size+1+1:=Z
  rw [e3] at a3;refine ⟨a1,by simpa using a2,?_,?_⟩
  ·exact ⟨a3.1,a3.2.1,a3.2.2.1⟩
  ·exact a3.2.2.2
 obtain ⟨⟨s0,s1,s2⟩,⟨t0,t1,t2⟩,⟨r0,r1,r2⟩,rf⟩:=b.out W (ae _ _);clear rf;have Hf:¬ w.heap.size+1+1=w.heap.size:=O
 have Hg:¬ w.heap.size=w.heap.size+1+1:=O
 have Hh:¬ w.heap.size+1+1=w.heap.size+1:=O
 have mc:=ab hwh;clear hwh;go_enter Tryz.func87,Tryz.ntmps87
 go_upto_region 2 with fail;rw [<- hW];clear hW;go_cut [19] (fun s19 wx=>Hid (s19=.bool false/\W.grownBy wx none))
 case first =>
  go_wp2_with fail;rcases mc.out W with h | ⟨h,h2⟩
  ·refine h.mono ?_;rintro e w1 ⟨rfl,g1⟩;go_wp2_with fail;go_meet
   exact ⟨rfl,g1⟩
  ·refine h.mono ?_;rintro e w1 ⟨rfl,g1⟩;obtain ⟨⟨a0,a1,a2⟩,⟨a3,a4,a5⟩,_⟩:=b.out w1 g1;go_wp2_with fail;refine (h2 _).mono ?_;rintro e w2 ⟨rfl,g2⟩;go_wp2_with fail;go_meet
   exact ⟨rfl,aa g1 g2⟩
 case rest =>
  obtain ⟨rfl,GG⟩:=hcut.out;clear hcut s0 s1 s2 t0 t1 t2 r0 r1 r2;obtain ⟨⟨s0,s1,s2⟩,⟨s3,s4,s5⟩,_⟩:=b.out wc GG;go_wp2;go_cut [6,7] (fun s6 s7 wx=>Hid (W.grownBy wx none/\(∃ o l c,s6=.slice o l c)/\(∃ o l c,s7=.slice o l c)/\aT wx s6 G1 (q+r+1)/\aT wx s7 G2 (q+r+1)))
  case first =>
   go_region_held3 (fun w'=>w'.cell? ⟨w.heap.size,0,none⟩=some (.bool s)/\w'.cell? ⟨w.heap.size,1,none⟩=some (.slice y z A)/\w'.cell? ⟨w.heap.size,2,none⟩=some (.slice p G H)/\w'.cell? ⟨w.heap.size+1,0,none⟩=some (.bool t)/\w'.cell? ⟨w.heap.size+1,1,none⟩=some (.slice D E F)/\w'.cell? ⟨w.heap.size+1,2,none⟩=some (.slice Q R S)) (go_keep)
    (first | (go_at_call_of 101 (Value.agg #[.bool t,.slice D E F,.slice Q R S]);refine (fK _ t P U r _ (HY.keep0 (aa GW zF))).mono ?_;rintro e wa ⟨va,rfl,pa,ga⟩;obtain ⟨Ho,Hp,Hq,rfl,_,_,_⟩:=pa.shape;have a:=aa zQ ga;have GG:W.grownBy wa none:=aa zF ga;(try have pb:=pb.keep0 a);(try have pc:=pc.keep0 a);(try have pd:=pd.keep0 a);clear a;obtain ⟨⟨hI,hJ,hK⟩,⟨hL,hM,hN⟩,⟨hQ,hR,hS⟩,f⟩:=b.out wa GG;have hj:=f 0;have hk:=f 1;have hm:=f 2;clear f) | (go_at_call_of 133 (Value.slice y z A);refine (oO _ _ N U (q+r+1) _ ((NX.keep0 (aa GW zF)).mono O) ((pa.keep0 zQ).mono O) (.inr J) O).mono ?_;rintro e wb ⟨vb,rfl,pb,gb⟩;rw [<- jp] at pb;obtain ⟨Hr,Hs,Ht,rfl,_,_,_⟩:=pb.shape;have a:=aa zQ gb;have GG:W.grownBy wb none:=aa zF gb;(try have pa:=pa.keep0 a);(try have pc:=pc.keep0 a);(try have pd:=pd.keep0 a);clear a;obtain ⟨⟨hT,hX,hY⟩,⟨ka,kb,kc⟩,⟨kf,kk,kl⟩,j⟩:=b.out wb GG;have hp:=j 0;have hq:=j 1;have hr:=j 2;clear j) | (go_at_call_of 101 (Value.agg #[.bool s,.slice y z A,.slice p G H]);refine (fK _ s N T q _ (HX.keep0 (aa GW zF))).mono ?_;rintro e x ⟨ko,rfl,pc,gc⟩;obtain ⟨Hu,Hv,Hw,rfl,_,_,_⟩:=pc.shape;have a:=aa zQ gc;have GG:W.grownBy x none:=aa zF gc;(try have pa:=pa.keep0 a);(try have pb:=pb.keep0 a);(try have pd:=pd.keep0 a);clear a;obtain ⟨⟨kw,kz,kF⟩,⟨kH,kN,kS⟩,⟨qf,ql,qo⟩,m⟩:=b.out x GG;have hs:=m 0;have hu:=m 1;have hv:=m 2;clear m) | (go_at_call_of 133 (Value.slice D E F);refine (oO _ _ P T (q+r+1) _ ((NY.keep0 (aa GW zF)).mono O) ((pc.keep0 zQ).mono O) (.inr I) O).mono ?_;rintro e wd ⟨vd,rfl,pd,gd⟩;rw [<- jv] at pd;obtain ⟨Hx,Hy,Hz,rfl,_,_,_⟩:=pd.shape;have a:=aa zQ gd;have GG:W.grownBy wd none:=aa zF gd;(try have pa:=pa.keep0 a);(try have pb:=pb.keep0 a);(try have pc:=pc.keep0 a);clear a;obtain ⟨⟨md,ml,mm⟩,⟨mo,mp,ms⟩,⟨mt,Ha,Hb⟩,u⟩:=b.out wd GG;have hD:=u 0;have hE:=u 1;have hF:=u 2;clear u))
   all_goals (go_wp2_with fail;go_meet;exact ⟨zF,⟨_,_,_,rfl⟩,⟨_,_,_,rfl⟩,pb.keep0 zQ,pd.keep0 zQ⟩)
  case rest =>
   clear GG s0 s1 s2 s3 s4 s5;obtain ⟨GG,⟨go,gl,gc,rfl⟩,⟨ho,qq,hc,rfl⟩,S6,S7⟩:=hcut.out;clear hcut;obtain ⟨⟨s0,s1,s2⟩,⟨s3,s4,s5⟩,_⟩:=b.out wc GG;go_wp2;go_cut [8] (fun s8 wx=>Hid (W.grownBy wx none/\(∃ o l c,s8=.slice o l c)/\aT wx s8 (X1*X2) (q+r)/\aT wx (.slice go gl gc) G1 (q+r+1)/\aT wx (.slice ho qq hc) G2 (q+r+1)))
   case first =>
    go_region_held3 (fun w'=>w'.cell? ⟨w.heap.size,0,none⟩=some (.bool s)/\w'.cell? ⟨w.heap.size,1,none⟩=some (.slice y z A)/\w'.cell? ⟨w.heap.size,2,none⟩=some (.slice p G H)/\w'.cell? ⟨w.heap.size+1,0,none⟩=some (.bool t)/\w'.cell? ⟨w.heap.size+1,1,none⟩=some (.slice D E F)/\w'.cell? ⟨w.heap.size+1,2,none⟩=some (.slice Q R S)) (go_keep)
     (first | (go_at_call_of 134 (Value.slice y z A);refine (gC _ _ N G1 (q+r+1) _ ((NX.keep0 (aa GW zF)).mono O) (S6.keep0 zQ) hA O).mono ?_;rintro e wa ⟨va,rfl,qa,ga⟩;rw [<- jg] at qa;obtain ⟨HA,HB,HC,rfl,_,_,_⟩:=qa.shape;have a:=aa zQ ga;have GG:W.grownBy wa none:=aa zF ga;(try have qb:=qb.keep0 a);(try have qc:=qc.keep0 a);(try have S6:=S6.keep0 a);(try have S7:=S7.keep0 a);clear a;obtain ⟨⟨hI,hJ,hK⟩,⟨hL,hM,hN⟩,⟨hQ,hR,hS⟩,f⟩:=b.out wa GG;have hj:=f 0;have hk:=f 1;have hm:=f 2;clear f) | (go_at_call_of 134 (Value.slice D E F);refine (gC _ _ P G2 (q+r+1) _ ((NY.keep0 (aa GW zF)).mono O) (S7.keep0 zQ) hB O).mono ?_;rintro e wb ⟨vb,rfl,qb,gb⟩;rw [<- jk] at qb;obtain ⟨HD,HE,HF,rfl,_,_,_⟩:=qb.shape;have a:=aa zQ gb;have GG:W.grownBy wb none:=aa zF gb;(try have qa:=qa.keep0 a);(try have qc:=qc.keep0 a);(try have S6:=S6.keep0 a);(try have S7:=S7.keep0 a);clear a;obtain ⟨⟨hT,hX,hY⟩,⟨ka,kb,kc⟩,⟨kf,kk,kl⟩,j⟩:=b.out wb GG;have hp:=j 0;have hq:=j 1;have hr:=j 2;clear j) | (go_at_call 100;refine (fg _ _ X1 X2 q r _ ((qa.keep0 zQ).tight yc) ((qb.keep0 zQ).tight yl) O).mono ?_;rintro e x ⟨ko,rfl,qc,gc,_⟩;obtain ⟨HG,HH,HI,rfl,_,_,_⟩:=qc.shape;have a:=aa zQ gc;have GG:W.grownBy x none:=aa zF gc;(try have qa:=qa.keep0 a);(try have qb:=qb.keep0 a);(try have S6:=S6.keep0 a);(try have S7:=S7.keep0 a);clear a;obtain ⟨⟨kw,kz,kF⟩,⟨kH,kN,kS⟩,⟨qf,ql,qo⟩,m⟩:=b.out x GG;have hs:=m 0;have hu:=m 1;have hv:=m 2;clear m))
    all_goals (go_wp2_with fail;go_meet;exact ⟨zF,⟨_,_,_,rfl⟩,qc.keep0 zQ,S6.keep0 zQ,S7.keep0 zQ⟩)
   case rest =>
    clear GG s0 s1 s2 s3 s4 s5 S6 S7;obtain ⟨GG,⟨io,il,ic,rfl⟩,S8,S6,S7⟩:=hcut.out;clear hcut;obtain ⟨⟨s0,s1,s2⟩,⟨s3,s4,s5⟩,_⟩:=b.out wc GG;go_wp2;go_region_held3 (fun w'=>w'.cell? ⟨w.heap.size,0,none⟩=some (.bool s)/\w'.cell? ⟨w.heap.size,1,none⟩=some (.slice y z A)/\w'.cell? ⟨w.heap.size,2,none⟩=some (.slice p G H)/\w'.cell? ⟨w.heap.size+1,0,none⟩=some (.bool t)/\w'.cell? ⟨w.heap.size+1,1,none⟩=some (.slice D E F)/\w'.cell? ⟨w.heap.size+1,2,none⟩=some (.slice Q R S)) (go_keep)
     (first | (go_at_call_of 101 (Value.agg #[.bool s,.slice y z A,.slice p G H]);refine (fK _ s N T q _ (HX.keep0 (aa GW zF))).mono ?_;rintro e wa ⟨va,rfl,ra,ga⟩;obtain ⟨HJ,HK,HL,rfl,_,_,_⟩:=ra.shape;have a:=aa zQ ga;have GG:W.grownBy wa none:=aa zF ga;(try have rb:=rb.keep0 a);(try have rc:=rc.keep0 a);(try have rd:=rd.keep0 a);(try have re:=re.keep0 a);(try have S6:=S6.keep0 a);(try have S7:=S7.keep0 a);(try have S8:=S8.keep0 a);clear a;obtain ⟨⟨hI,hJ,hK⟩,⟨hL,hM,hN⟩,⟨hQ,hR,hS⟩,f⟩:=b.out wa GG;have hj:=f 0;have hk:=f 1;have hm:=f 2;clear f) | (go_at_call_of 134 (Value.slice ho qq hc);refine (gC _ _ T G2 (q+r+1) _ ((ra.keep0 zQ).mono O) (S7.keep0 zQ) hB O).mono ?_;rintro e wb ⟨vb,rfl,rb,gb⟩;rw [<- jl] at rb;obtain ⟨HM,HN,HP,rfl,_,_,_⟩:=rb.shape;have a:=aa zQ gb;have GG:W.grownBy wb none:=aa zF gb;(try have ra:=ra.keep0 a);(try have rc:=rc.keep0 a);(try have rd:=rd.keep0 a);(try have re:=re.keep0 a);(try have S6:=S6.keep0 a);(try have S7:=S7.keep0 a);(try have S8:=S8.keep0 a);clear a;obtain ⟨⟨hT,hX,hY⟩,⟨ka,kb,kc⟩,⟨kf,kk,kl⟩,j⟩:=b.out wb GG;have hp:=j 0;have hq:=j 1;have hr:=j 2;clear j) | (go_at_call_of 101 (Value.agg #[.bool t,.slice D E F,.slice Q R S]);refine (fK _ t P U r _ (HY.keep0 (aa GW zF))).mono ?_;rintro e x ⟨ko,rfl,rc,qs⟩;obtain ⟨HR,HS,HT,rfl,_,_,_⟩:=rc.shape;have a:=aa zQ qs;have GG:W.grownBy x none:=aa zF qs;(try have ra:=ra.keep0 a);(try have rb:=rb.keep0 a);(try have rd:=rd.keep0 a);(try have re:=re.keep0 a);(try have S6:=S6.keep0 a);(try have S7:=S7.keep0 a);(try have S8:=S8.keep0 a);clear a;obtain ⟨⟨kw,kz,kF⟩,⟨kH,kN,kS⟩,⟨qf,ql,qo⟩,m⟩:=b.out x GG;have hs:=m 0;have hu:=m 1;have hv:=m 2;clear m) | (go_at_call_of 134 (Value.slice go gl gc);refine (gC _ _ U G1 (q+r+1) _ ((rc.keep0 zQ).mono O) (S6.keep0 zQ) hA O).mono ?_;rintro e wd ⟨vd,rfl,rd,gd⟩;rw [<- jo] at rd;obtain ⟨HU,HV,HW,rfl,_,_,_⟩:=rd.shape;have a:=aa zQ gd;have GG:W.grownBy wd none:=aa zF gd;(try have ra:=ra.keep0 a);(try have rb:=rb.keep0 a);(try have rc:=rc.keep0 a);(try have re:=re.keep0 a);(try have S6:=S6.keep0 a);(try have S7:=S7.keep0 a);(try have S8:=S8.keep0 a);clear a;obtain ⟨⟨md,ml,mm⟩,⟨mo,mp,ms⟩,⟨mt,Ha,Hb⟩,u⟩:=b.out wd GG;have hD:=u 0;have hE:=u 1;have hF:=u 2;clear u) | (go_at_call 100;refine (fg _ _ Y1 Y2 (q+1) (r+1) _ ((rb.keep0 zQ).tight yn) ((rd.keep0 zQ).tight yo) O).mono ?_;rintro e we ⟨ve,rfl,re,ge,_⟩;obtain ⟨Ka,rel,Kb,rfl,_,_,_⟩:=re.shape;have a:=aa zQ ge;have GG:W.grownBy we none:=aa zF ge;(try have ra:=ra.keep0 a);(try have rb:=rb.keep0 a);(try have rc:=rc.keep0 a);(try have rd:=rd.keep0 a);(try have S6:=S6.keep0 a);(try have S7:=S7.keep0 a);(try have S8:=S8.keep0 a);clear a;obtain ⟨⟨Kc,Kd,Ke⟩,⟨Kf,Kg,Kh⟩,⟨Ki,Kj,Kk⟩,hf⟩:=b.out we GG;have Hi:=hf 0;have Hj:=hf 1;have Hk:=hf 2;clear hf) | (go_at_call 135;refine (kX _ _ _ (X1*X2) (Y1*Y2) (q+r+1) _ ((S8.keep0 zQ).mono O) ((re.keep0 zQ).tight yv) jc hC).mono ?_;rintro e wf ⟨v6,rfl,f1,f2⟩;obtain ⟨fo,fl,fc,Hc,Hd,He,rfl⟩:=f1.shape;have GG:W.grownBy wf none:=aa zF f2;obtain ⟨⟨g0,g1,g2⟩,⟨g3,g4,g5⟩,⟨g6,g7,g8⟩,gf⟩:=b.out wf GG;have Hl:=gf 0;have Hm:=gf 1;have Hn:=gf 2;clear gf))
    all_goals
     have F1:=ab f1;have hG:=ab GG;clear f1 f2;go_wp2;refine bodyPost_ret (v:=.agg #[.bool (bn (s != t) (X1*X2) (Y1*Y2)).1,.slice fo fl fc,.slice Hc Hd He]) (by first | (simp [results,Tryz.results87,go_sem,g6,g7,g8];done) | (simp [results,Tryz.results87,go_sem,g6,g7,g8];rfl)) rfl ?_;exact ⟨_,rfl,F1.other (NW wf hG) bI,ah (ah (ah (aa GW hG) _ _ (by simp;omega)) _ _ (by simp;omega)) _ _ (by simp;omega)⟩
def rO (x y:Value) (a b:Bool) (c m i f j l:Nat) (w:World) (Q:FV w x a c m i) (hy:FV w y b f j l) (p:i+l<=7000000000000) :
  Calls Tryz.prog 87 #[x,y] w fun e w'=>gQ w (bn (a != b) (c*f) (m*j)).1 (bn (a != b) (c*f) (m*j)).2.1 (bn (a != b) (c*f) (m*j)).2.2 (i+l+1) e w':=by
 have R:=Q;have q:=hy;obtain ⟨up,S,rfl,T,t,h3,h4⟩:=Q;obtain ⟨V,u,rfl,U,z,k3,k4⟩:=hy;obtain ⟨A,B,C,rfl,_⟩:=T.shape;obtain ⟨D,E,F,rfl,_⟩:=U.shape;rcases t with ⟨rfl,rfl⟩ | ⟨t,hd⟩
 ·rcases z with ⟨rfl,rfl⟩ | ⟨z,kd⟩
  ·exact tA A D B C E F a b c i f l w T U p
  ·obtain ⟨G,o,H,rfl,I,J,K⟩:=z.shape;have r:0<o:=by
    rcases zP o with h | h
    ·have:=I.1 h;omega
    ·exact h
   exact nZ A D none G B C E F 0 0 o H a b c 1 i f j l w R q p (fun P=>.inr ⟨cL _ _ _ _ P,fun wy=>fO _ _ _ _ _ _ _ wy r J K⟩)
 ·obtain ⟨M,N,X,rfl,I,J,K⟩:=t.shape;have s:0<N:=by
   rcases zP N with h | h
   ·have:=I.1 h;omega
   ·exact h
  obtain ⟨Y,he,hf,G,o,H,e⟩:=q.shape;simp only [Value.agg.injEq,Array.mk.injEq,List.cons.injEq,and_true,true_and] at e;obtain ⟨_,rfl⟩:=e;exact nZ A D M G B C E F N X o H a b c m i f j l w R q p (fun P=>.inl (fO _ _ _ _ _ _ _ P s J K))
def FQ (w:World) (v:Value) (q:Rat) (L:Nat):Prop:=FV w v (rB q) (rN q) q.den L
def FQE (w:World) (q:Rat) (L:Nat) (e:Ending) (w':World):Prop:=∃ v,e=.returned v/\FQ w' v q L/\w.grownBy w' none
def FQ.keep0 {q:Rat} (h:FQ w v q L) (hg:w.grownBy w' none):FQ w' v q L:=FV.keep0 h hg
def FQ.mono {q:Rat} {L':Nat} (h:FQ w v q L) (c:L<=L'):FQ w v q L':=by
 obtain ⟨up,a,e,f,b,i,j⟩:=h;refine ⟨up,a,e,f.mono c,?_,i,j⟩;rcases b with b | ⟨b,l⟩
 ·exact .inl b
 ·exact .inr ⟨b.mono c,l⟩
def FQ.shape {q:Rat} (h:FQ w v q L):∃ uo ul uc do_ dl dc,v=.agg #[.bool (rB q),.slice uo ul uc,.slice do_ dl dc]:=FV.shape h
def Ab (b:Bool) (n d:Nat):bn b n d=(rB (mkRat (gD b n) d),rN (mkRat (gD b n) d),(mkRat (gD b n) d).den):=by
 unfold bn;by_cases h:n=0∨d=0
 ·rw [if_pos h,mk_zero b n d h];rfl
 ·rw [if_neg h];obtain ⟨a,c,f⟩:=vM b n d (fun e=>h (.inl e)) (fun e=>h (.inr e));unfold rB rN;rw [a,c,f]
def gQ.q {b:Bool} {q:Rat} (a:mkRat (gD b n) d=q) {e:Ending} (h:gQ w (bn b n d).1 (bn b n d).2.1 (bn b n d).2.2 L e w'):FQE w q L e w':=by
 rw [Ab,a] at h;exact h
def fS (x y:Value) (p q:Rat) (a b:Nat) (w:World) (c:FQ w x p a) (hy:FQ w y q b) (f:a+b<=7000000000000) :
  Calls Tryz.prog 87 #[x,y] w fun e w'=>FQE w (p*q) (a+b+1) e w':=by
 refine (rO x y _ _ _ _ a _ _ b w c hy f).mono ?_;intro e w' h;exact gQ.q (q_mul p q) h
def fI (l:List UInt8):Rat :=
 if cr (Lib.cut (Lib.trimPrefix l [45]) [47]).1 && cr (fM (Lib.trimPrefix l [45])) then
  mkRat (gD (Lib.hasPrefix l [45]) (bw (Lib.cut (Lib.trimPrefix l [45]) [47]).1)) (bw (fM (Lib.trimPrefix l [45])))
 else 0
def Et (l:List UInt8):ij l=(rB (fI l),rN (fI l),(fI l).den):=by
 unfold ij fI;split
 ·exact Ab _ _ _
 ·rfl
def EW (s:ByteArray) (m:Int) (w:World) (b:s.size<=600000000) (a:w.cell? ⟨2,0,none⟩=some (.int .i64 m)) :
  Calls Tryz.prog 75 #[.string s] w fun e w'=>FQE w (fI s.data.toList) (s.size+1) e w':=by
 refine (vS s m w b a).mono ?_;intro e w' h;unfold OfE at h;rw [Et] at h;exact h
end Go.Proofs.YtbomdfhdocaagaaGreatDoor
