/- Contracts. -/
import Derived.Test.YtbfohfjobncehaaGreatDoorXPb
import Derived.Deep.RegionHeld3
import Derived.Test.YtbfohfjobncehaaGreatDoorXPe
import Derived.Lib.ItoaMem
namespace Go.Proofs.YtbfohfjobncehaaGreatDoor
open Go.RowKit
set_option linter.all false
set_option maxHeartbeats 8000000
set_option maxRecDepth 10000
variable {w w' wr W:World} {L n g d k:Nat} {v:Value} {xs ys:List Nat}
def Bt (x y z u:Int):Int :=
 if u > (if z > (if y > x then y else x) then z else (if y > x then y else x)) then u else (if z > (if y > x then y else x) then z else (if y > x then y else x))
theorem Er {P:Program} (w:World) (a:Array TypeId) (t:TypeId) (k:IntKind) (x y z u:Int):(Builtin.max_ a t #[.int k x,.int k y,.int k z,.int k u]).run P w=.ok (.int k (Bt x y z u)) w:=by
 simp [Builtin.max_,Builtin.max2,Bt]
theorem max4_lt (x y z u B:Int):Bt x y z u<B↔x<B/\y<B/\z<B/\u<B:=by
 unfold Bt;repeat' split
 all_goals omega
theorem vU (q c:Int) (a:0<=q) (b:q<1073741824) (c1:-1073741824<c) (c2:c<1073741824):-1152921504606846976<q*c/\q*c<1152921504606846976:=by
 have k1:q*c<=q*1073741823:=Int.mul_le_mul_of_nonneg_left O a;have e:q*(-1073741823)<=q*c:=Int.mul_le_mul_of_nonneg_left O a;omega
def lN (w:World) (g:Nat) (a b c d:Int):Prop:=w.heap[g]? = some (.cells #[.int .i64 a,.int .i64 b,.int .i64 c,.int .i64 d] 155 (0,0))
theorem lN.cells {a b c d:Int} (h:lN w g a b c d):w.cell? ⟨g,0,none⟩=some (.int .i64 a)/\w.cell? ⟨g,1,none⟩=some (.int .i64 b)/\w.cell? ⟨g,2,none⟩=some (.int .i64 c)/\w.cell? ⟨g,3,none⟩=some (.int .i64 d)/\∀ i,w.frozen? ⟨g,i,none⟩=false:=by
 unfold lN at h;refine ⟨?_,?_,?_,?_,fun i=>?_⟩<;>simp [World.cell?,World.frozen?,h]
theorem lN.set {a b c d e f i j:Int} (h:lN w g a b c d):lN ((((w.setCell ⟨g,0,none⟩ (.int .i64 e)).setCell ⟨g,1,none⟩ (.int .i64 f)).setCell ⟨g,2,none⟩ (.int .i64 i)).setCell ⟨g,3,none⟩ (.int .i64 j)) g e f i j:=by
 unfold lN at h ⊢;rw [heap_setCell_same _ g 3 _ _ _ (heap_setCell_same _ g 2 _ _ _ (heap_setCell_same _ g 1 _ _ _ (heap_setCell_same w g 0 _ _ _ h)))];simp
theorem lN.other {a b c d:Int} (h:lN w g a b c d) (e:g≠k) (x y z u:Value):lN ((((w.setCell ⟨k,0,none⟩ x).setCell ⟨k,1,none⟩ y).setCell ⟨k,2,none⟩ z).setCell ⟨k,3,none⟩ u) g a b c d:=by
 unfold lN at h ⊢;rw [heap_setCell_other _ _ _ _ e,heap_setCell_other _ _ _ _ e,heap_setCell_other _ _ _ _ e,heap_setCell_other _ _ _ _ e];exact h
theorem tz (h:w.grownBy wr none) (a:w.heap.size<=k) (x y z u:Value):w.grownBy ((((wr.setCell ⟨k,0,none⟩ x).setCell ⟨k,1,none⟩ y).setCell ⟨k,2,none⟩ z).setCell ⟨k,3,none⟩ u) none :=
 ah (ah (ah (ah h _ _ a) _ _ a) _ _ a) _ _ a
def pJ (X Y a b c d:Int):Prop:=∃ P H N hi nx,iT X Y P H N a b c d hi nx
def StrR (w:World) (X Y P H N:Int) (hv nv:Value) (wr:World):Prop :=
 ∃ a b c d hi nx:Int,hv=.int .i64 hi/\nv=.int .i64 nx/\0<=nx/\iT X Y P H N a b c d hi nx/\lN wr w.heap.size 0 0 0 0/\lN wr (w.heap.size+1) a b c d/\w.grownBy wr none
def sU (w:World) (X Y:Int) (e:Ending) (w':World):Prop:=∃ a b c d:Int,e=.returned (.agg #[.int .i64 a,.int .i64 b,.int .i64 c,.int .i64 d])/\pJ X Y a b c d/\w.grownBy w' none
theorem yS {X Y:Nat} (c:pI X k) (a:Y<=X) (i:4611686018427387904<=Y):63<=k/\X / 2^(k-62)<4611686018427387904/\Y / 2^(k-62)<=X / 2^(k-62):=by
 rcases c with ⟨h,_⟩ | ⟨j,l,f⟩
 ·omega
 ·have b:63<=k:=by
   rcases Nat.lt_or_ge k 63 with h | h
   ·have:=Nat.pow_le_pow_right (n:=2) zD (show k<=62 by omega);omega
   ·exact h
  refine ⟨b,?_,Nat.div_le_div_right a⟩;rw [Nat.div_lt_iff_lt_mul (Nat.two_pow_pos _)];have e:4611686018427387904*2^(k-62)=2^k:=by
   rw [show (4611686018427387904:Nat)=2^62 from by decide,<- Nat.pow_add,show 62+(k-62)=k from O]
  rw [e];exact f
theorem nk (X low:Nat):(X:Int)=((X / 2^low:Nat):Int)*((2^low:Nat):Int)+((X % 2^low:Nat):Int)/\0<=((X % 2^low:Nat):Int)/\((X % 2^low:Nat):Int)<((2^low:Nat):Int):=by
 have a:=Nat.div_add_mod X (2^low);have b:=Nat.mod_lt X (Nat.two_pow_pos low);refine ⟨?_,O,O⟩;rw [<- Int.natCast_mul,<- Int.natCast_add];congr 1
 rw [Nat.mul_comm];exact a.symm
theorem wU (va vb:Value) (xs ys:List Nat) (w:World) (ha:Ws w va xs) (hb:Ws w vb ys) (tx:Tr xs) (s:ai ys<=ai xs) (hY:4611686018427387904<=ai ys) (hl:xs.length<=10000000000000) :
  Calls Tryz.prog 113 #[va,vb] w fun e w'=>sU w (ai xs:Nat) (ai ys:Nat) e w':=by
 obtain ⟨ao,ca,ea,hm,J,_⟩:=ha.open;obtain ⟨bo,cb,eb,ho,K,_⟩:=hb.open;have WA:=aa ha;have WB:=aa hb;have TX:=aa tx;have u:=aa s;have HY:=aa hY;subst ea eb;clear ha hb tx s hY hm J ho K;go_enter Tryz.func113,Tryz.ntmps113
 go_wp2_with fail;have Y:w.grownBy (w.alloc (Obj.cells #[Value.int .i64 0,Value.int .i64 0,Value.int .i64 0,Value.int .i64 0] 155)) none:=ae (ag _ _) _;refine (mI _ (ai xs) xs.length _ ⟨xs,WA.keep0 Y,TX,rfl,zL⟩ hl).mono ?_;rintro e w1 ⟨k,rfl,hk,hp,rfl⟩;obtain ⟨hr,kH,kN⟩:=yS hk u HY;obtain ⟨low,Q⟩:∃ low:Nat,(k:Int)-62=(low:Int):=⟨k-62,O⟩;have i:k-62=low:=O
 rw [i] at kH kN;have j:low<=400000000000000:=O
 obtain ⟨o,l⟩:=eX (ai xs / 2^low);obtain ⟨r,p⟩:=eX (ai ys / 2^low);have hy:o<4611686018427387904:=by rw [l];exact kH
 have he:r<=o:=by rw [l,p];exact kN
 obtain ⟨e1,e2,e3⟩:=nk (ai xs) low;obtain ⟨f1,f2,f3⟩:=nk (ai ys) low;have hP:(0:Int)<((2^low:Nat):Int):=by have:=Nat.two_pow_pos low;omega
 have x:((ai ys:Nat):Int)<=((ai xs:Nat):Int):=Int.ofNat_le.2 u;have F:(0:Int)<((ai ys:Nat):Int):=by have:=HY.out;omega
 rw [<- l] at e1;rw [<- p] at f1;obtain ⟨P,R⟩:∃ P:Int,P=((2^low:Nat):Int):=⟨_,rfl⟩;rw [<- R] at e1 e3 f1 f3 hP;have y:Hid (∀ {a b c d hi nx q:Int},iT (ai xs:Nat) (ai ys:Nat) P o r a b c d hi nx->nx+c≠0->nx+d≠0->q=(hi+a) / (nx+c)->q=(hi+b) / (nx+d)->(-1073741824<a-q*c/\a-q*c<1073741824)->(-1073741824<b-q*d/\b-q*d<1073741824) ->
   iT (ai xs:Nat) (ai ys:Nat) P o r c d (a-q*c) (b-q*d) nx (hi-q*nx)/\0<=hi-q*nx/\hi-q*nx<nx/\0<=q/\q*nx<=hi+1073741824):=by
  intro a b c d hi nx q h k1 k2 k3 k4 k5 k6;exact h.step hP e2 e3 f2 f3 e1 f1 x k1 k2 k3 k4 k5 k6
 have G:=aa (iT.start (P:=P) (H:=(o:Int)) (N:=(r:Int)) x F (Int.natCast_nonneg _) (Int.ofNat_le.2 he));have HH:=aa l;have HN:=aa p;have KH:=aa kH;have KN:=aa kN;clear kH kN hk hp hr i e1 e2 e3 f1 f2 f3 hP x F R l p;go_wp2_with fail;refine (iI _ xs low _ (WA.keep0 Y) KH j).mono ?_;rintro e w2 ⟨rfl,q2,rfl⟩;rw [<- HH];go_wp2_with fail;refine (iI _ ys low _ (WB.keep0 (ar Y _)) (Nat.lt_of_le_of_lt KN KH) j).mono ?_;rintro e w3 ⟨rfl,q3,rfl⟩;rw [<- HN];clear KH KN u HY WA WB TX HH HN Q Y;go_wp2;go_loopw [6,7] (fun hv nv wr=>Hid (StrR w (ai xs:Nat) (ai ys:Nat) P o r hv nv wr)) (fun _ nv _=>(intOf nv).toNat)
 case atStart =>
  refine ⟨1,0,0,1,o,r,rfl,rfl,Int.natCast_nonneg _,G,?_,?_,?_⟩
  ·show ((w.heap.push _).push _)[w.heap.size]? = _
   rw [Array.getElem?_push_lt Z,Array.getElem_push_eq]
  ·show ((w.heap.push _).push _)[w.heap.size+1]? = _
   have e:w.heap.size+1=(w.heap.push (Obj.cells #[Value.int .i64 0,Value.int .i64 0,Value.int .i64 0,Value.int .i64 0] 155)).size:=Z
   rw [e,Array.getElem?_push_size]
  ·exact ae (ar (ae (ag _ _) _) _) _
 case round =>
  obtain ⟨a,b,c,d,hi,nx,rfl,rfl,hs,hS,hR,hF,hG⟩:=hrel.out;have ha:=hS.ha;have hb:=hS.hb;have hc:=hS.hc;have hd:=hS.hd;have s:=hS.le;have hw:=hS.top;have z:=hS.ra;have A:=hS.rb;have hz:=hS.rc;have hA:=hS.rd;obtain ⟨s0,s1,s2,s3,S⟩:=hF.cells;obtain ⟨T,r1,r2,U,V⟩:=hR.cells;have hB:=S 0;have hE:=S 1;have hH:=S 2;have hI:=S 3;have hK:=V 0;have hL:=V 1;have hN:=V 2;have hQ:=V 3;have SS:=aa hS;have FF:=aa hF;have GG:=aa hG;have RR:=aa hR;have f:Hid (sU w (ai xs:Nat) (ai ys:Nat) (.returned (.agg #[.int .i64 a,.int .i64 b,.int .i64 c,.int .i64 d])) ((((wr.setCell ⟨w.heap.size,0,none⟩ (.int .i64 a)).setCell ⟨w.heap.size,1,none⟩ (.int .i64 b)).setCell ⟨w.heap.size,2,none⟩ (.int .i64 c)).setCell ⟨w.heap.size,3,none⟩ (.int .i64 d))) :=
   ⟨a,b,c,d,rfl,⟨P,o,r,hi,nx,hS⟩,tz hG zL _ _ _ _⟩
  have B:Hid (∀ n,sU w (ai xs:Nat) (ai ys:Nat) (.returned (.agg #[.int .i64 a,.int .i64 b,.int .i64 c,.int .i64 d])) (((((wr.drewN n).setCell ⟨w.heap.size,0,none⟩ (.int .i64 a)).setCell ⟨w.heap.size,1,none⟩ (.int .i64 b)).setCell ⟨w.heap.size,2,none⟩ (.int .i64 c)).setCell ⟨w.heap.size,3,none⟩ (.int .i64 d))) :=
   fun n=>⟨a,b,c,d,rfl,⟨P,o,r,hi,nx,hS⟩,tz (ar hG n) zL _ _ _ _⟩
  clear hS hF hG hR S V hrel G;by_cases k1:nx+c=0
  ·have b1:(nx+c != 0)=false:=by rw [bne_eq_false_iff_eq];exact k1
   clear k1;go_wp2;refine bodyPost_ret (v:=.agg #[.int .i64 a,.int .i64 b,.int .i64 c,.int .i64 d]) (by simp [results,Tryz.results113,go_sem,T,r1,r2,U]) rfl f
  ·have b1:(nx+c != 0)=true:=by rw [bne_iff_ne];exact k1
   by_cases k2:nx+d=0
   ·have b2:(nx+d != 0)=false:=by rw [bne_eq_false_iff_eq];exact k2
    clear k1 k2;go_wp2;refine bodyPost_ret (v:=.agg #[.int .i64 a,.int .i64 b,.int .i64 c,.int .i64 d]) (by simp [results,Tryz.results113,go_sem,T,r1,r2,U]) rfl f
   ·have b2:(nx+d != 0)=true:=by rw [bne_iff_ne];exact k2
    have p1:0<nx+c:=O
    have p2:0<nx+d:=O
    obtain ⟨q,X⟩:∃ q,(hi+a) / (nx+c)=q:=⟨_,rfl⟩;obtain ⟨E,m⟩:∃ q,(hi+b) / (nx+d)=q:=⟨_,rfl⟩;have t1:(hi+a).tdiv (nx+c)=q:=by rw [Int.tdiv_eq_ediv_of_nonneg z];exact X
    have t2:(hi+b).tdiv (nx+d)=E:=by rw [Int.tdiv_eq_ediv_of_nonneg A];exact m
    have q0:0<=q:=by rw [<- X];exact Int.ediv_nonneg z O
    have hT:0<=E:=by rw [<- m];exact Int.ediv_nonneg A O
    have q1:q<=hi+a:=by rw [<- X];exact Int.ediv_le_self _ z
    have hW:E<=hi+b:=by rw [<- m];exact Int.ediv_le_self _ A
    have z1:(nx+c==0)=false:=zB k1;have z2:(nx+d==0)=false:=zB k2;have K1:=aa k1;have K2:=aa k2;have HQ:=aa X;have hf:=aa m;clear X m k1 k2;by_cases k3:1073741824<=q
    ·go_wp2;refine bodyPost_ret (v:=.agg #[.int .i64 a,.int .i64 b,.int .i64 c,.int .i64 d]) (by simp [results,Tryz.results113,go_sem,T,r1,r2,U]) rfl f
    ·have I:q<1073741824:=O
     by_cases k4:q=E
     ·have b4:(q != E)=false:=by rw [bne_eq_false_iff_eq];exact k4
      obtain ⟨m1,m2⟩:=vU q c q0 I hc.1 hc.2;obtain ⟨m3,m4⟩:=vU q d q0 I hd.1 hd.2;obtain ⟨C,hC⟩:∃ C,a-q*c=C:=⟨_,rfl⟩;obtain ⟨D,hD⟩:∃ D,b-q*d=D:=⟨_,rfl⟩;obtain ⟨M,hM⟩:∃ M,Bt C (-C) D (-D)=M:=⟨_,rfl⟩;have hx:∀ (ts:Array TypeId) (t:TypeId) (w:World),(Builtin.max_ ts t #[.int .i64 C,.int .i64 (-C),.int .i64 D,.int .i64 (-D)]).run Tryz.prog w=.ok (.int .i64 M) w:=by
       intro ts t w;rw [<- hM];exact Er w ts t .i64 C (-C) D (-D)
      have hX:-1152921505680588800<C/\C<1152921505680588800:=O
      have ka:-1152921505680588800<D/\D<1152921505680588800:=O
      have hj:=aa k4;have HM:=aa hM;clear k4 hM;by_cases k5:1073741824<=M
      ·go_wp2;go_quiet (fail)
       go_wp2;refine bodyPost_ret (v:=.agg #[.int .i64 a,.int .i64 b,.int .i64 c,.int .i64 d]) (by simp [results,Tryz.results113,go_sem,T,r1,r2,U]) rfl (B _)
      ·have hlt:Bt C (-C) D (-D)<1073741824:=by rw [HM];omega
       rw [max4_lt] at hlt;obtain ⟨n1,n2,n3,n4⟩:=hlt;obtain ⟨st,hu,kc,st3,ke⟩:=y.out SS K1 K2 HQ.symm (by rw [hj];exact hf.symm) (by rw [hC];omega) (by rw [hD];omega);rw [hC,hD] at st;have kb:0<=q*nx:=Int.mul_nonneg q0 hs;have ST:=aa st;clear st;go_wp2;go_quiet (fail)
       go_wp2;go_roundw
       case rel=>exact ⟨c,d,C,D,nx,hi-q*nx,rfl,rfl,hu,ST,lN.other (w:=wr.drewN _) RR O _ _ _ _,lN.set (w:=wr.drewN _) FF,tz (ar GG _) O _ _ _ _⟩
       case measure=>exact bO
     ·have b4:(q != E)=true:=by rw [bne_iff_ne];exact k4
      clear k4;go_wp2;refine bodyPost_ret (v:=.agg #[.int .i64 a,.int .i64 b,.int .i64 c,.int .i64 d]) (by simp [results,Tryz.results113,go_sem,T,r1,r2,U]) rfl f
def GcdR (w:World) (G L:Nat) (k:Nat) (av bv:Value) (wr:World):Prop :=
 ∃ xs ys:List Nat,Ws wr av xs/\Ws wr bv ys/\Tr xs/\Tr ys/\0<ai xs/\xs.length<=L/\ys.length<=L/\Nat.gcd (ai xs) (ai ys)=G/\w.grownBy wr none/\ai ys=k/\ai ys<=ai xs
theorem Ce {u v X Y:Int} (h:Int.gcd u v=Int.gcd X Y) (a:0<=u) (b:0<=v) (c:0<=X) (f:0<=Y):Nat.gcd u.toNat v.toNat=Nat.gcd X.toNat Y.toNat:=by
 have e:∀ z:Int,0<=z->z.natAbs=z.toNat:=fun z i=>O
 unfold Int.gcd at h;rw [e u a,e v b,e X c,e Y f] at h;exact h
theorem pJ.gives {X Y:Nat} {a b c d:Int} (h:pJ X Y a b c d) :
  (-1073741824<a/\a<1073741824)/\(-1073741824<b/\b<1073741824)/\(-1073741824<c/\c<1073741824)/\(-1073741824<d/\d<1073741824) /\
  0<=a*X+b*Y/\a*X+b*Y<=X/\0<=c*X+d*Y/\c*X+d*Y<=X/\0<(a*X+b*Y).toNat/\(c*X+d*Y).toNat<=(a*X+b*Y).toNat /\
  Nat.gcd (a*X+b*Y).toNat (c*X+d*Y).toNat=Nat.gcd X Y/\(b≠0->(c*X+d*Y).toNat<Y):=by
 obtain ⟨P,H,N,hi,f,h⟩:=h;have u0:=h.u0;have v0:=h.v0;have vu:=h.vu;have ux:=h.ux;refine ⟨h.ha,h.hb,h.hc,h.hd,O,ux,v0,O,O,O,?_,?_⟩
 ·have:=Ce h.g O v0 (Int.natCast_nonneg _) (Int.natCast_nonneg _);rw [this,Int.toNat_natCast,Int.toNat_natCast]
 ·intro hb;rcases h.bs with ⟨_,e,_⟩ | ⟨_,e⟩
  ·exact absurd e hb
  ·omega
theorem bits_le (h:pI n k) (a:k<=62):n<4611686018427387904:=by
 rcases h with ⟨h,_⟩ | ⟨_,_,h⟩
 ·omega
 ·have:=Nat.pow_le_pow_right (n:=2) zD a;omega
theorem bits_gt (h:pI n k) (a:62<k):4611686018427387904<=n:=by
 rcases h with ⟨_,h⟩ | ⟨_,h,_⟩
 ·omega
 ·have:=Nat.pow_le_pow_right (n:=2) zD (show 62<=k-1 by omega);omega
theorem Cg (n:Nat) (h:n<18446744073709551616):Sm [n % 4294967296,n / 4294967296]/\ai [n % 4294967296,n / 4294967296]=n:=by
 constructor
 ·exact Sm.cons O (Sm.cons O Sm.nil)
 ·simp only [ai];omega
theorem aT.shape (h:aT w v n L):∃ o l c,v=.slice o l c/\(l=0↔n=0)/\l<=c/\c<=maxLen:=by
 obtain ⟨xs,b,f,a,p⟩:=h;obtain ⟨o,c,rfl,i,j,_⟩:=b.open;refine ⟨o,_,c,rfl,?_,i,j⟩;constructor
 ·intro e;have:xs=[]:=List.eq_nil_of_length_eq_zero e;rw [this] at a;simp [ai] at a;omega
 ·intro e;rcases zP xs.length with h | h
  ·exact h
  ·have:=jz f (by intro e;rw [e] at h;simp at h);have m:0<4294967296^(xs.length-1):=Nat.pow_pos zD;omega
theorem cS (k:Nat):w.grownBy (w.drewN k) none:=ar (ag _ _) k
def GcdE (w:World) (G L:Nat) (e:Ending) (w':World):Prop:=∃ g,e=.returned g/\aT w' g G L/\w.grownBy w' none
def LastR (G:Nat) (hv lv:Value):Prop:=∃ h l:Nat,hv=.int .i64 (h:Nat)/\lv=.int .i64 (l:Nat)/\h<4611686018427387904/\l<4611686018427387904/\Nat.gcd h l=G
theorem jk (va vb:Value) (i j:List Nat) (w:World) (ha:Ws w va i) (hb:Ws w vb j) (y:Tr i) (z:Tr j) (A:0<ai i∨0<ai j) (L:Nat) (N:i.length<=L) (P:j.length<=L) (hl:L<=8000000000000) :
  Calls Tryz.prog 71 #[va,vb] w fun e w'=>GcdE w (Nat.gcd (ai i) (ai j)) L e w':=by
 obtain ⟨ao,ca,ea,hy,u,Ha⟩:=ha.open;obtain ⟨bo,cb,eb,hz,x,Hb⟩:=hb.open;obtain ⟨G,hG⟩:=eX (Nat.gcd (ai i) (ai j));rw [<- hG];have hN:(∃ k0,(∀ wq,w.grownBy wq none->GcdR w G L k0 (.slice bo j.length cb) (.slice ao i.length ca) wq)/\jb (ai i) (ai j)<0)∨(∃ k0,(∀ wq,w.grownBy wq none->GcdR w G L k0 (.slice ao i.length ca) (.slice bo j.length cb) wq)/\0<=jb (ai i) (ai j)):=by
  rcases Nat.lt_or_ge (ai i) (ai j) with hlt | hA
  ·exact .inl ⟨ai i,fun wq Y=>⟨j,i,by rw [<- eb];exact hb.keep0 Y,by rw [<- ea];exact ha.keep0 Y,z,y,O,P,N,by rw [Nat.gcd_comm];exact hG.symm,Y,rfl,Nat.le_of_lt hlt⟩,tH hlt⟩
  ·exact .inr ⟨ai j,fun wq Y=>⟨i,j,by rw [<- ea];exact ha.keep0 Y,by rw [<- eb];exact hb.keep0 Y,y,z,O,N,P,hG.symm,Y,rfl,hA⟩,nM hA⟩
 have WA:=aa ha;have WB:=aa hb;have TX:=aa y;have TY:=aa z;subst ea eb;clear Ha Hb ha hb y z A N P hG hy u hz x;rcases hN with ⟨k0,h0,I⟩ | ⟨k0,h0,I⟩
 all_goals
  have H0:=aa h0;clear h0;go_enter Tryz.func71,Tryz.ntmps71
  go_wp2_with fail;refine (gB _ _ i j _ WA WB TX TY).mono ?_;rintro e w1 ⟨rfl,q1,rfl⟩;generalize jb (ai i) (ai j)=o1 at I ⊢;clear WA WB TX TY;go_wp2;go_loopg [0,1] k0 (fun k av bv wr=>Hid (GcdR w G L k av bv wr))
  case atStart=>exact H0 _ (bG _)
  case round =>
   obtain ⟨xs,ys,h1,h2,h3,h4,h5,h6,h7,h8,h9,hB,T⟩:=hrel.out;obtain ⟨kf,kg,rfl,hy,u,_⟩:=h1.open;obtain ⟨kk,kl,rfl,hz,x,_⟩:=h2.open;unfold maxLen at u x;have he:ys.length<=xs.length:=mj h2.sm h4 h1.sm T;have H1:=aa h1;have H:=aa h2;have H3:=aa h3;have H4:=aa h4;have H5:=aa h5;have H8:=aa h8;have H9:=aa h9;have hf:=aa hB;have hQ:=aa T;clear h1 h2 h3 h4 h5 h8 h9 hB T hrel H0;go_wp2_with fail;refine (mI _ (ai ys) L _ ⟨ys,H,H4,rfl,h7⟩ O).mono ?_;rintro e w2 ⟨kb,rfl,D,J,rfl⟩;by_cases hj:62<kb
   ·have hY:=aa (bits_gt D hj);clear D J;go_wp2_with fail;refine (wU _ _ xs ys _ H1 H H3 hQ hY O).mono ?_;rintro e p ⟨a,b,c,d,rfl,hC,g3⟩;obtain ⟨i1,i2,i3,i4,i5,i6,i7,i8,i9,hE,hH,hI⟩:=hC.gives;have G3:=aa g3;have I5:=aa i5;have I6:=aa i6;have I7:=aa i7;have I8:=aa i8;have I9:=aa i9;have hR:=aa hE;have hS:=aa hH;have hT:=aa hI;clear hC g3 i5 i6 i7 i8 i9 hE hH hI;by_cases s:b=0
    ·have bb:(b==0)=true:=beq_iff_eq.2 s;clear s;have o:Hid (0<ai ys):=by have:=hY.out;show 0<ai ys;omega
     have ga:p.grownBy (p.alloc (Obj.cells #[Value.int .i64 a,Value.int .i64 b,Value.int .i64 c,Value.int .i64 d] 155)) none:=ae (ag _ _) _;have GA:=aa (ab G3 ga);clear ga;go_wp2_with fail;refine (jF _ _ (ai xs) (ai ys) L L _ ⟨xs,H1.keep0 GA,H3,rfl,h6⟩ ⟨ys,H.keep0 GA,H4,rfl,h7⟩ o O).mono ?_;intro e C hD;obtain ⟨q,r,rfl,k1,⟨U,r1,r2,r3,r4⟩,K,k4,k5⟩:=hD;obtain ⟨kn,ko,rfl,ks,hK,_⟩:=r1.open;obtain ⟨ku,kw,ky,rfl,_,_,_⟩:=k1.shape;have R1:=aa r1;have R2:=aa r2;have R3:=aa r3;have K3:=aa K;clear k1 r1 r2 r3 K k4 k5;go_wp2;have B:=Nat.mod_lt (ai xs) o;go_roundg (ai U)
     case measure=>rw [R3,<- hf];exact B
     case rel=>exact ⟨ys,U,H.keep0 (ab GA K3),R1,H4,R2,o,h7,r4,by rw [R3,Nat.gcd_comm,<- Nat.gcd_rec,Nat.gcd_comm];exact H8,ab H9 (ab GA K3),rfl,by rw [R3];exact Nat.le_of_lt B⟩
    ·have bb:(b==0)=false:=zB s;have hX:=aa s;clear s;obtain ⟨W,V⟩:=eX (p.alloc (Obj.cells #[Value.int .i64 a,Value.int .i64 b,Value.int .i64 c,Value.int .i64 d] 155));have hF:lN W p.heap.size a b c d:=by
      rw [V];show (p.heap.push _)[p.heap.size]? = _
      rw [Array.getElem?_push_size]
     have Q:=aa (ab G3 (show p.grownBy W none by rw [V];exact ae (ag _ _) _));have f:Hid (∀ wx,W.grownBy wx none->wx.cell? ⟨p.heap.size,0,none⟩=some (.int .i64 a)/\wx.cell? ⟨p.heap.size,1,none⟩=some (.int .i64 b)/\wx.cell? ⟨p.heap.size,2,none⟩=some (.int .i64 c)/\wx.cell? ⟨p.heap.size,3,none⟩=some (.int .i64 d)):=by
      intro wx hg;obtain ⟨s0,s1,s2,s3,_⟩:=hF.cells;exact ⟨hg.cell s0 Z,hg.cell s1 Z,hg.cell s2 Z,hg.cell s3 Z⟩
     have hk:Hid (∀ wx,W.grownBy wx none->Ws wx (.slice kf xs.length kg) xs):=fun wx hg=>H1.keep0 (ab Q hg)
     have ho:Hid (∀ wx,W.grownBy wx none->Ws wx (.slice kk ys.length kl) ys):=fun wx hg=>H.keep0 (ab Q hg)
     obtain ⟨s0,s1,s2,s3⟩:=f.out W (ag _ _);have hp:xs.length<=10000000000000:=O
     clear hF;go_wp2;rw [<- V];clear V;go_region_held3 (fun w'=>w'.cell? ⟨p.heap.size,0,none⟩=some (.int .i64 a)/\w'.cell? ⟨p.heap.size,1,none⟩=some (.int .i64 b)/\w'.cell? ⟨p.heap.size,2,none⟩=some (.int .i64 c)/\w'.cell? ⟨p.heap.size,3,none⟩=some (.int .i64 d)) (go_keep)
      (first | (go_at_call_of 115 (Value.int .i64 a);refine (pZ _ _ xs ys a b _ _ (hk _ (by first | exact cS _ | exact ab G1 (cS _) | exact ab G2 (cS _) | exact ag _ _ | exact G1 | exact G2)) (ho _ (by first | exact cS _ | exact ab G1 (cS _) | exact ab G2 (cS _) | exact ag _ _ | exact G1 | exact G2)) he i1.1 i1.2 i2.1 i2.2 rfl I5 I6 hp).mono ?_;rintro e C ⟨v1,rfl,k1,M,K⟩;have G1:W.grownBy C none:=ab (by first | exact cS _ | exact ab G1 (cS _) | exact ab G2 (cS _) | exact ag _ _ | exact G1 | exact G2) M;have s10:=(f C G1).1;have s11:=(f C G1).2.1;have s12:=(f C G1).2.2.1;have s13:=(f C G1).2.2.2) | (go_at_call_of 115 (Value.int .i64 c);refine (pZ _ _ xs ys c d _ _ (hk _ (by first | exact cS _ | exact ab G1 (cS _) | exact ab G2 (cS _) | exact ag _ _ | exact G1 | exact G2)) (ho _ (by first | exact cS _ | exact ab G1 (cS _) | exact ab G2 (cS _) | exact ag _ _ | exact G1 | exact G2)) he i3.1 i3.2 i4.1 i4.2 rfl I7 I8 hp).mono ?_;rintro e w5 ⟨v2,rfl,m1,m2,m3⟩;have G2:W.grownBy w5 none:=ab (by first | exact cS _ | exact ab G1 (cS _) | exact ab G2 (cS _) | exact ag _ _ | exact G1 | exact G2) m2;have s20:=(f w5 G2).1;have s21:=(f w5 G2).2.1;have s22:=(f w5 G2).2.2.1;have s23:=(f w5 G2).2.2.2))
     all_goals first
      | (have K1:=aa (k1.keep0 (by first | exact m2 | exact ab gr_drew1 m2 | exact ab (cS _) m2));have M1:=aa m1;have GF:=aa (ab Q G2);clear k1 M K m1 m2 m3 G1 G2 s10 s11 s12 s13 s20 s21 s22 s23)
      | (have K1:=aa k1;have M1:=aa (m1.keep0 (by first | exact M | exact ab gr_drew1 M | exact ab (cS _) M));have GF:=aa (ab Q G1);clear k1 M K m1 m2 m3 G1 G2 s10 s11 s12 s13 s20 s21 s22 s23)
     all_goals
      obtain ⟨us,X,x2,x3,x4⟩:=K1.out;obtain ⟨vs,y1,y2,y3,y4⟩:=M1.out;obtain ⟨uo,uc,rfl,kS,hu2,_⟩:=X.open;obtain ⟨vo,vc,rfl,qa,qb,_⟩:=y1.open;have X1:=aa X;have X2:=aa x2;have X3:=aa x3;have Y1:=aa y1;have Y2:=aa y2;have Y3:=aa y3;clear X x2 x3 y1 y2 y3 K1 M1 s0 s1 s2 s3;go_wp2;go_roundg (ai vs)
      case measure=>rw [Y3,<- hf];exact hT hX
      case rel=>exact ⟨us,vs,X1,Y1,X2,Y2,by rw [X3];exact I9,O,O,by rw [X3,Y3,hS];exact H8,ab H9 GF,rfl,by rw [X3,Y3];exact hR⟩
   ·have R:=aa (bits_le D O);clear D J;by_cases t:ys.length=0
    ·have E0:Hid (ys=[]):=List.eq_nil_of_length_eq_zero t;have bb:(((ys.length:Nat):Int)==0)=true:=beq_iff_eq.2 O;clear t;go_wp2;go_ret;refine ⟨_,rfl,⟨xs,H1,H3,?_,h6⟩,H9⟩;have:=H8.out;rw [E0] at this;simp only [ai,Nat.gcd_zero_right] at this;exact this
    ·have bb:(((ys.length:Nat):Int)==0)=false:=zB O;have o:Hid (0<ai ys):=by
      have:=jz H4 (by intro e;rw [e] at t;simp at t);have p3:0<4294967296^(ys.length-1):=Nat.pow_pos zD;show 0<ai ys
      omega
     clear t;go_wp2_with fail;refine (jF _ _ (ai xs) (ai ys) L L _ ⟨xs,H1,H3,rfl,h6⟩ ⟨ys,H,H4,rfl,h7⟩ o O).mono ?_;intro e C hD;obtain ⟨q,r,rfl,k1,⟨U,r1,r2,r3,r4⟩,K,k4,k5⟩:=hD;obtain ⟨kn,ko,rfl,ks,hK,_⟩:=r1.open;obtain ⟨ku,kw,ky,rfl,_,_,_⟩:=k1.shape;have B:=Nat.mod_lt (ai xs) o;have hr:Hid (ai U<4611686018427387904):=by have:=R.out;show ai U<_;omega
     have R1:=aa r1;have R3:=aa r3;have K3:=aa K;obtain ⟨yn,E⟩:=eX (ai ys);obtain ⟨rn,F⟩:=eX (ai U);have hs:yn<4611686018427387904:=by rw [E];exact R
     have hu:rn<4611686018427387904:=by rw [F];exact hr
     have HG:Hid (Nat.gcd yn rn=G):=by rw [E,F,R3,Nat.gcd_comm,<- Nat.gcd_rec,Nat.gcd_comm];exact H8
     have ka:=aa E;have kc:=aa F;clear k1 r1 r2 r3 K k4 k5 B E F;go_wp2_with fail;refine (iI _ ys 0 _ (H.keep0 K3) (by rw [Nat.pow_zero,Nat.div_one];exact R) O).mono ?_;rintro e w5 ⟨rfl,q5,rfl⟩;rw [Nat.pow_zero,Nat.div_one,<- ka];go_wp2_with fail;refine (iI _ U 0 _ (R1.keep0 (bG _)) (by rw [Nat.pow_zero,Nat.div_one];exact hr) O).mono ?_;rintro e w6 ⟨rfl,q6,rfl⟩;rw [Nat.pow_zero,Nat.div_one,<- kc];have Q:Hid (w.grownBy ((C.drewN q5).drewN q6) none):=ab H9 (ab K3 (ab (bG _) (bG _)));obtain ⟨W,V⟩:=eX ((C.drewN q5).drewN q6);rw [<- V] at Q ⊢;clear V;go_wp2;go_loopw [10,11] (fun hv lv wr=>Hid (LastR G hv lv/\w.grownBy wr none)) (fun _ lv _=>(intOf lv).toNat)
     case atStart=>exact ⟨⟨yn,rn,rfl,rfl,hs,hu,HG⟩,Q⟩
     case round =>
      obtain ⟨⟨h,l,rfl,rfl,hh,kz,hg⟩,hL⟩:=hrel.out;have S:=aa hg;have hx:=aa hL;clear hg hL hrel;by_cases ke:0<l
      ·have zz:(((l:Nat):Int)==0)=false:=zB O;obtain ⟨m,B⟩:=eX (h % l);have kF:m<l:=by rw [B];exact Nat.mod_lt _ ke
       have e1:((h:Nat):Int).tmod (l:Int)=(m:Int):=by
        rw [Int.tmod_eq_emod_of_nonneg O,B];exact (Int.natCast_emod h l).symm
       have HM:=aa B;clear B;go_wp2;go_quiet (fail)
       go_wp2;go_roundw
       case rel=>exact ⟨⟨l,m,rfl,rfl,kz,O,by rw [HM,Nat.gcd_comm,<- Nat.gcd_rec,Nat.gcd_comm];exact S⟩,ab hx (cS _)⟩
       case measure=>exact bO
      ·obtain rfl:l=0:=O
       have hG:Hid (h=G):=by have:=S.out;rw [Nat.gcd_zero_right] at this;exact this
       obtain ⟨x0,A⟩:=eX (h % 4294967296);obtain ⟨X,hM⟩:=eX (h / 4294967296);have e0:((h:Nat):Int) % 4294967296=(x0:Int):=O
       have e1:((h:Nat):Int) / 4294967296=(X:Int):=O
       obtain ⟨t1,t2⟩:=Cg h O;rw [<- A,<- hM] at t1 t2;have T1:=aa t1;have T2:=aa t2;clear t1 t2 A hM S;go_wp2_with fail;have ha:ch (wr.alloc (Obj.cells #[Value.int IntKind.u32 (x0:Int),Value.int IntKind.u32 (X:Int)] 115)) wr.heap.size [x0,X]:=by
        unfold ch;show (wr.heap.push _)[wr.heap.size]? = _
        rw [Array.getElem?_push_size];rfl
       have hw:=ha.ws T1 (by unfold maxLen;simp);clear ha;refine (fN _ _ _ hw).mono ?_;rintro e w7 ⟨v',rfl,rfl,k1,M⟩;have K1:=aa k1;clear hw k1 M;go_wp2;go_ret;obtain ⟨zs,z1,z2,z3,z4⟩:=K1.out;rw [T2,hG] at z3;have kH:G<=ai ys:=by rw [<- H8];exact Nat.gcd_le_right _ o
       have kN:=mj z1.sm z2 H.sm (show ai zs<=ai ys by omega);exact ⟨v',rfl,⟨zs,z1,z2,z3,O⟩,ae hx _⟩
theorem Af (a:Sm xs) (b:Tr xs):(xs==[1])=decide (ai xs=1):=by
 rw [Bool.eq_iff_iff];simp only [beq_iff_eq,decide_eq_true_eq];constructor
 ·intro e;rw [e];simp [ai]
 ·intro e;refine AD a (Sm.cons zD Sm.nil) b (by simp [Tr,aR]) ?_;rw [e];simp [ai]
theorem rU (v:Value) (L:Nat) (w:World) (h:aT w v 1 L):Calls Tryz.prog 109 #[v] w fun e w'=>e=.returned (.bool true)/\w'=w:=by
 obtain ⟨xs,a,b,c,f⟩:=h;refine (rP v xs w a).mono ?_;rintro e w' ⟨rfl,rfl⟩;rw [Af a.sm b,c];exact ⟨rfl,rfl⟩
theorem vj (v:Value) (n L:Nat) (w:World) (h:aT w v n L) (hn:n≠1):Calls Tryz.prog 109 #[v] w fun e w'=>e=.returned (.bool false)/\w'=w:=by
 obtain ⟨xs,a,b,c,f⟩:=h;refine (rP v xs w a).mono ?_;rintro e w' ⟨rfl,rfl⟩;rw [Af a.sm b,c];exact ⟨by simp [hn],rfl⟩
def FV (w:World) (v:Value) (neg:Bool) (n d L:Nat):Prop :=
 ∃ up down,v=.agg #[.bool neg,up,down]/\aT w up n L/\((down=.slice none 0 0/\d=1)∨(aT w down d L/\1<d))/\Nat.gcd n d=1/\(neg=true->0<n)
theorem FV.keep0 {neg:Bool} (h:FV w v neg n d L) (hg:w.grownBy w' none):FV w' v neg n d L:=by
 obtain ⟨up,a,e,c,b,f,i⟩:=h;refine ⟨up,a,e,c.keep0 hg,?_,f,i⟩;rcases b with b | ⟨b,j⟩
 ·exact .inl b
 ·exact .inr ⟨b.keep0 hg,j⟩
def gN (w:World) (neg:Bool) (n d L:Nat) (e:Ending) (w':World):Prop:=∃ v,e=.returned v/\FV w' v neg n d L/\w.grownBy w' none
theorem vH (c:Bool) (u d:Value) (n m L:Nat) (w:World) (j:aT w u n L) (hd:aT w d m L) (l:n=0∨m=0) :
  Calls Tryz.prog 167 #[.bool c,u,d] w fun e w'=>gN w false 0 1 L e w':=by
 obtain ⟨t,i,x,rfl,u1,u2,u3⟩:=j.shape;obtain ⟨r,p,y,rfl,q,z,s⟩:=hd.shape;unfold maxLen at u3 s;have o:i=0∨p=0:=by
  rcases l with h | h
  ·exact .inl (u1.2 h)
  ·exact .inr (q.2 h)
 clear u1 q l j hd;have a:gN w false 0 1 L (.returned (.agg #[.bool false,.slice none 0 0,.slice none 0 0])) (w.alloc (Obj.cells #[Value.bool false,Value.slice none 0 0,Value.slice none 0 0] 85)) :=
  ⟨_,rfl,⟨_,_,rfl,⟨[],Ws.nil _,rfl,rfl,Z⟩,.inl ⟨rfl,rfl⟩,rfl,Z⟩,ae (ag _ _) _⟩
 have b:=aa a;clear a;by_cases f:i=0
 ·subst f;clear o;go_enter Tryz.func167,Tryz.ntmps167
  go_wp2;exact bodyPost_ret (v:=.agg #[.bool false,.slice none 0 0,.slice none 0 0]) (by simp [results,Tryz.results167,go_sem]) rfl b
 ·obtain rfl:p=0:=O
  have hb:(((i:Nat):Int)==0)=false:=zB O;clear o f;go_enter Tryz.func167,Tryz.ntmps167
  go_wp2;exact bodyPost_ret (v:=.agg #[.bool false,.slice none 0 0,.slice none 0 0]) (by simp [results,Tryz.results167,go_sem]) rfl b
def bM (w:World) (g:Nat):Prop:=∀ i (x:Nat),w.cell? ⟨g,i,none⟩≠some (.int .u32 (x:Nat))
theorem bu {b:Bool} (h:(w.alloc (Obj.cells #[.bool b,.slice none 0 0,.slice none 0 0] 85)).grownBy W none):bM W w.heap.size:=by
 have e:W.heap[w.heap.size]? = some (Obj.cells #[.bool b,.slice none 0 0,.slice none 0 0] 85 (0,0)):=by
  rw [h.block w.heap.size Z Z];exact heap_alloc_new w _
 intro i x;match i with
 | 0=>simp [World.cell?,e]
 | 1=>simp [World.cell?,e]
 | 2=>simp [World.cell?,e]
 | i+3=>simp [World.cell?,e]
theorem aT.other (h:aT w v n L) (hg:bM w g) (c:w.grownBy w' (some g)):aT w' v n L:=by
 obtain ⟨xs,f,l,m,o⟩:=h;refine ⟨xs,?_,l,m,o⟩;by_cases r:xs.length=0
 ·refine ⟨f.sm,?_⟩;rcases f.sh with h | ⟨b,off,cap,rfl,hb,p,q,hc⟩
  ·exact .inl h
  ·exact .inr ⟨b,off,cap,rfl,Nat.lt_of_lt_of_le hb c.size,p,q,fun i hi=>O⟩
 ·refine f.keep c ?_;intro k e j;cases e
  obtain ⟨s,cap,rfl,_,_,hc⟩:=f.open;obtain ⟨b,off,rfl,_,a⟩:=hc 0 O;simp [au] at j;subst j;exact hg _ _ a
theorem aV {b:Value} {u:Value} (h:(w.alloc (Obj.cells #[b,u,v] 85)).grownBy W none) :
  W.cell? ⟨w.heap.size,0,none⟩=some b/\W.cell? ⟨w.heap.size,1,none⟩=some u/\W.cell? ⟨w.heap.size,2,none⟩=some v/\(∀ i,W.frozen? ⟨w.heap.size,i,none⟩=false):=by
 have e:W.heap[w.heap.size]? = some (Obj.cells #[b,u,v] 85 (0,0)):=by
  rw [h.block w.heap.size Z Z];exact heap_alloc_new w _
 refine ⟨?_,?_,?_,fun i=>?_⟩<;>simp [World.cell?,World.frozen?,e]
theorem rZ {m:Nat} (h:n % m=0) (a:0<m):n / Nat.gcd n m=n / m/\m / Nat.gcd n m=1:=by
 rw [Nat.gcd_eq_right (Nat.dvd_of_mod_eq_zero h)];exact ⟨rfl,Nat.div_self a⟩
theorem Dv {m:Nat} (h:n % m≠0) (b:0<m):1<m / Nat.gcd n m:=by
 have hd:Nat.gcd n m∣m:=Nat.gcd_dvd_right n m;have f:0<Nat.gcd n m:=Nat.gcd_pos_of_pos_right _ b;have j:0<m / Nat.gcd n m:=Nat.div_pos (Nat.gcd_le_right _ b) f;rcases Nat.lt_or_ge 1 (m / Nat.gcd n m) with c | c
 ·exact c
 ·exfalso
  have e:m / Nat.gcd n m=1:=O
  have i:m=Nat.gcd n m:=by
   have:=Nat.div_mul_cancel hd;rw [e,Nat.one_mul] at this;exact this.symm
  have a:m∣n:=by rw [i];exact Nat.gcd_dvd_left n m
  exact h (Nat.mod_eq_zero_of_dvd a)
def OverE (w:World) (n L:Nat) (e:Ending) (w':World):Prop:=∃ v,e=.returned v/\aT w' v n L/\w.grownBy w' none
theorem fW (x y:Value) (n G L:Nat) (w:World) (c:aT w x n L) (hy:aT w y G L) (l:0<G) (B:L<=8000000000000) :
  Calls Tryz.prog 73 #[x,y] w fun e w'=>OverE w (n / G) L e w':=by
 obtain ⟨D,E,F,rfl,u1,u2,u3⟩:=c.shape;obtain ⟨s,H,I,rfl,t,J,K⟩:=hy.shape;have h:=aa c;have f:=aa hy;clear c hy u1 t;by_cases b:G=1
 ·have a:=aa b;clear b;go_enter Tryz.func73,Tryz.ntmps73
  go_wp2_with fail;refine (rU _ L _ (by have:=f.out;rw [a] at this;exact this)).mono ?_;rintro e u ⟨rfl,rfl⟩;go_wp2;go_ret;exact ⟨_,rfl,by rw [a,Nat.div_one];exact h,ag _ _⟩
 ·have a:=aa b;clear b;go_enter Tryz.func73,Tryz.ntmps73
  go_wp2_with fail;refine (vj _ G L _ f a).mono ?_;rintro e u ⟨rfl,rfl⟩;go_wp2_with fail;refine (jF _ _ n G L L _ h f l O).mono ?_;intro e C p;obtain ⟨q,r,rfl,k1,i,j,z,A⟩:=p;obtain ⟨M,N,P,rfl,_,_,_⟩:=k1.shape;obtain ⟨Q,R,rc,rfl,_,_,_⟩:=i.shape;have m:=aa k1;have o:=aa j;clear k1 i j z A;go_wp2;go_ret;exact ⟨_,rfl,m,o⟩
theorem bH {a b c:Value} : w.grownBy (((w.setCell ⟨g,0,none⟩ a).setCell ⟨g,1,none⟩ b).setCell ⟨g,2,none⟩ c) (some g) :=
 iw (iw (iw (ag _ _) g 0 _ rfl) g 1 _ rfl) g 2 _ rfl
theorem qr {a:Bool} {u:Value} (hg:g=w.heap.size) (c:w.grownBy W none) (e:aT W u n L) (f:(v=.slice none 0 0/\d=1)∨(aT W v d L/\1<d)) (b:bM W g) (hc:Nat.gcd n d=1) (hn:0<n) :
  gN w a n d L (.returned (.agg #[.bool a,u,v])) (((W.setCell ⟨g,0,none⟩ (.bool a)).setCell ⟨g,1,none⟩ u).setCell ⟨g,2,none⟩ v):=by
 refine ⟨_,rfl,⟨u,v,rfl,e.other b bH,?_,hc,fun _=>hn⟩,?_⟩
 ·rcases f with h | ⟨h,i⟩
  ·exact .inl h
  ·exact .inr ⟨h.other b bH,i⟩
 ·subst hg;exact ah (ah (ah c _ _ zL) _ _ zL) _ _ zL
theorem yk (a:Bool) (u d:Value) (n m L:Nat) (w:World) (E:aT w u n L) (hd:aT w d m L) (hn:0<n) (x:0<m) (hl:L<=8000000000000) :
  Calls Tryz.prog 167 #[.bool a,u,d] w fun e w'=>gN w a (n / Nat.gcd n m) (m / Nat.gcd n m) L e w':=by
 obtain ⟨uo,T,uc,rfl,u1,u2,u3⟩:=E.shape;obtain ⟨hw,U,dc,rfl,d1,d2,d3⟩:=hd.shape;unfold maxLen at u3 d3;have hq:0<T:=by
  rcases zP T with h | h
  ·have:=u1.1 h;omega
  ·exact h
 have hr:0<U:=by
  rcases zP U with h | h
  ·have:=d1.1 h;omega
  ·exact h
 have hs:(((T:Nat):Int)==0)=false:=zB O;have hv:(((U:Nat):Int)==0)=false:=zB O;have HU:=aa E;have F:=aa hd;have j:Hid (0<n / Nat.gcd n m):=Nat.div_pos (Nat.gcd_le_left _ hn) (Nat.gcd_pos_of_pos_left _ hn);have b:Hid (Nat.gcd (n / Nat.gcd n m) (m / Nat.gcd n m)=1):=by
  show _=_
  rw [Nat.gcd_div (Nat.gcd_dvd_left n m) (Nat.gcd_dvd_right n m),Nat.div_self (Nat.gcd_pos_of_pos_left _ hn)]
 obtain ⟨A,V⟩:=eX (n / Nat.gcd n m);obtain ⟨B,X⟩:=eX (m / Nat.gcd n m);rw [<- V] at j b ⊢;rw [<- X] at b ⊢;have EA:=aa V;have H:=aa X;clear E hd u1 d1 V X;go_enter Tryz.func167,Tryz.ntmps167
 go_wp2_with fail;have g1:w.grownBy (w.alloc (Obj.cells #[Value.bool false,Value.slice none 0 0,Value.slice none 0 0] 85)) none:=ae (ag w none) _;have I:=aa g1;clear g1;refine (jF _ _ n m L L _ (HU.keep0 I) (F.keep0 I) x O).mono ?_;intro e w3 hD;obtain ⟨q,r,rfl,k1,l,i,k4,k5⟩:=hD;obtain ⟨qo,ql,qc,rfl,_,_,_⟩:=k1.shape;obtain ⟨ro,Y,rc,rfl,r1,r2,r3⟩:=l.shape;unfold maxLen at r3;have N1:=aa k1;have N2:=aa l;have y:=aa i;have J:=aa (ab I y);clear k1 l i k4 k5;by_cases z:Y=0
 ·have c:Hid (n % m=0):=r1.1 z;have bb:(((Y:Nat):Int)==0)=true:=beq_iff_eq.2 O;clear z r1;obtain ⟨c0,c1,c2,f⟩:=aV y;have K:=f 0;have M:=f 1;have N:=f 2;clear f;go_wp2;refine bodyPost_ret (v:=.agg #[.bool a,.slice qo ql qc,.slice none 0 0]) (by simp [results,Tryz.results167,go_sem,c0,c1,c2]) rfl ?_;refine qr rfl J ?_ (.inl ⟨rfl,?_⟩) (bu y) b j
  ·rw [EA,(rZ c x).1];exact N1
  ·rw [H,(rZ c x).2]
 ·have c:Hid (n % m≠0):=fun e=>z (r1.2 e)
  have bb:(((Y:Nat):Int)==0)=false:=zB O;have P:Hid (1<B):=by show 1<B;rw [H];exact Dv c x
  clear z r1;obtain ⟨s,x1,x2,x3,x4⟩:=F.out.keep0 J;obtain ⟨t,y1,y2,y3,y4⟩:=N2.out;obtain ⟨G,D⟩:=eX (Nat.gcd n m);have o:Nat.gcd (ai s) (ai t)=G:=by rw [x3,y3,D,Nat.gcd_comm,<- Nat.gcd_rec,Nat.gcd_comm]
  have p:0<G:=by rw [D];exact Nat.gcd_pos_of_pos_left _ hn
  have CD:=aa (jk _ _ s t _ x1 y1 x2 y2 O L x4 y4 O);rw [o] at CD;have HG:=aa D;clear x1 x2 x3 x4 y1 y2 y3 y4 o D;go_wp2_with fail;refine CD.mono ?_;rintro e w4 ⟨g,rfl,k1,l⟩;obtain ⟨go,gl,gc,rfl,_,_,_⟩:=k1.shape;have K1:=aa k1;have K2:=aa l;have Q:=aa (ab J K2);have R:=aa (ab y K2);clear k1 l;go_wp2_with fail;refine (fW _ _ n G L _ (HU.keep0 Q) K1 p O).mono ?_;rintro e w6 ⟨q1,rfl,k1,i⟩;obtain ⟨he,hf,hj,rfl,_,_,_⟩:=k1.shape;have M1:=aa k1;have C:=aa i;clear k1 i;go_wp2_with fail;refine (fW _ _ m G L _ (F.keep0 (ab Q C)) (K1.keep0 C) p O).mono ?_;rintro e w7 ⟨q2,rfl,k1,i⟩;obtain ⟨hk,ho,hp,rfl,_,_,_⟩:=k1.shape;have P1:=aa k1;have S:=aa i;clear k1 i;have K7:=aa (ab R (ab C S));have G7:=aa (ab Q (ab C S));obtain ⟨c0,c1,c2,f⟩:=aV K7;have K:=f 0;have M:=f 1;have N:=f 2;clear f;go_wp2;refine bodyPost_ret (v:=.agg #[.bool a,.slice he hf hj,.slice hk ho hp]) (by simp [results,Tryz.results167,go_sem,c0,c1,c2]) rfl ?_;refine qr rfl G7 ?_ (.inr ⟨?_,P⟩) (bu K7) b j
  ·rw [EA,<- HG];exact M1.keep0 S
  ·rw [H,<- HG];exact P1
def nE (c:UInt8):Bool:=48<=c.toNat && c.toNat<=57
def oQ (l:List UInt8):Nat:=(l.takeWhile nE).length
theorem runD_le (l:List UInt8):oQ l<=l.length:=by
 unfold oQ;have:=(List.takeWhile_prefix nE (l:=l)).length_le;exact this
theorem lG (c:UInt8) (l:List UInt8):oQ (c :: l)=if nE c then oQ l+1 else 0:=by
 unfold oQ;rw [List.takeWhile_cons];split<;>simp
theorem Bc (s:ByteArray) (k:Nat) (h:k<s.size):s.data.toList.drop k=s[k] :: s.data.toList.drop (k+1):=by
 rw [List.drop_eq_getElem_cons (by simpa using h)];rfl
def EndR (s:ByteArray) (E:Nat) (v:Value):Prop:=∃ k:Nat,k<=s.size/\v=.int .i64 k/\Hid (k+oQ (s.data.toList.drop k)=E)
theorem tm (s:ByteArray) (k0:Nat) (w:World) (o:s.size<=10000000000000) (f:k0<=s.size) :
  Calls Tryz.prog 196 #[.string s,.int .i64 (k0:Nat)] w fun e w'=>e=.returned (.int .i64 ((k0+oQ (s.data.toList.drop k0):Nat):Int))/\w'=w:=by
 obtain ⟨E,i⟩:∃ E,k0+oQ (s.data.toList.drop k0)=E:=⟨_,rfl⟩;rw [i];have m:=aa i;clear i;go_enter Tryz.func196,Tryz.ntmps196
 go_wp2;go_loop [1] (fun v=>EndR s E v) (fun v=>s.size-(intOf v).toNat)
 case atStart=>exact ⟨k0,f,rfl,m⟩
 case round =>
  obtain ⟨k,p,rfl,c⟩:=hrel;by_cases hlt:k<s.size
  ·have hd:=Bc s k hlt;have a:=aa hd;clear hd;by_cases j:48<=s[k].toNat
   ·by_cases l:s[k].toNat<=57
    ·have b:(48:Int)<=(s[k].toNat:Int):=O
     have h:(s[k].toNat:Int)<=57:=O
     go_wp2;go_round
     case rel =>
      refine ⟨k+1,O,zN,?_⟩;have:=c.out;rw [a,lG,if_pos (by simp [nE,j,l])] at this;show _=_
      omega
     case measure=>exact bO
    ·have b:(48:Int)<=(s[k].toNat:Int):=O
     have h:¬ (s[k].toNat:Int)<=57:=O
     go_wp2;go_ret;refine ⟨?_,rfl⟩;have:=c.out;rw [a,lG,if_neg (by simp [nE,l])] at this;rw [<- this];rfl
   ·have b:¬ (48:Int)<=(s[k].toNat:Int):=O
    go_wp2;go_ret;refine ⟨?_,rfl⟩;have:=c.out;rw [a,lG,if_neg (by simp [nE,j])] at this;rw [<- this];rfl
  ·obtain rfl:k=s.size:=O
   go_wp2;go_ret;refine ⟨?_,rfl⟩;have:=c.out;rw [List.drop_of_length_le Z] at this;rw [<- this];rfl
def cC (l:List UInt8):Bool:=!l.isEmpty && l.all nE
theorem Ep (l:List UInt8):(oQ l=l.length)↔l.all nE=true:=by
 induction l with
 | nil=>simp [oQ]
 | cons c r ih =>
  rw [lG];by_cases h:nE c
  ·simp [h,ih]
  ·simp [h]
theorem cB (s:ByteArray) (w:World) (p:s.size<=10000000000000) :
  Calls Tryz.prog 166 #[.string s] w fun e w'=>e=.returned (.bool (cC s.data.toList))/\w'=w:=by
 by_cases i:s.size=0
 ·have e:s=⟨#[]⟩:=by
   cases s with
   | mk d=>cases d with
    | mk l =>
     cases l with
     | nil=>rfl
     | cons a b=>simp [ByteArray.size] at i
  subst e;go_enter Tryz.func166,Tryz.ntmps166
  go_wp2;go_ret;exact ⟨rfl,rfl⟩
 ·have c:¬ s.toList=[]:=by
   intro e;apply i;rw [ByteArray.toList_eq] at e;rw [Lib.size_eq,e];rfl
  have f:Hid (cC s.data.toList=decide (oQ s.data.toList=s.size)):=by
   show _=_
   rw [Bool.eq_iff_iff,decide_eq_true_eq];have:=Ep s.data.toList;rw [Array.length_toList] at this;rw [show s.size=s.data.size from rfl,this];unfold cC;have j:s.data.toList.isEmpty=false:=by
    cases hl:s.data.toList with
    | nil =>
     exfalso
     apply i;show s.data.size=0
     rw [<- Array.length_toList,hl];rfl
    | cons a b=>rfl
   simp [j]
  have h:=runD_le s.data.toList;rw [Array.length_toList,show s.data.size=s.size from rfl] at h;go_enter Tryz.func166,Tryz.ntmps166
  go_wp2_with fail;refine (tm s 0 _ p (Nat.zero_le _)).mono ?_;rintro e w1 ⟨rfl,rfl⟩;rw [Nat.zero_add,List.drop_zero];have m:=f.out;generalize oQ s.data.toList=r at h m ⊢;have q:=aa m;have o:=aa c;clear m f c;go_wp2;go_ret;refine ⟨?_,rfl⟩;rw [q];show Ending.returned (.bool (!s.toList.isEmpty && ((r:Int)==(s.size:Int))))=_
  have j:s.toList.isEmpty=false:=by
   cases hl:s.toList with
   | nil=>exact absurd hl o
   | cons a b=>rfl
  rw [j];congr 2
  rw [Bool.eq_iff_iff];simp;omega
def bj (l:List UInt8):Nat:=l.foldl (fun a c=>a*10+(c.toNat-48)) 0
theorem CK (l:List UInt8) (a:Nat):l.foldl (fun a (c:UInt8)=>a*10+(c.toNat-48)) a=a*10^l.length+bj l:=by
 unfold bj;induction l generalizing a with
 | nil=>simp
 | cons c r ih =>
  rw [List.foldl_cons,ih,List.foldl_cons,ih (0*10+(c.toNat-48))];simp only [List.length_cons,Nat.pow_succ,Nat.zero_mul,Nat.zero_add,Nat.add_mul];rw [Nat.mul_assoc,Nat.mul_comm 10];omega
theorem mf (l r:List UInt8):bj (l++r)=bj l*10^r.length+bj r:=by
 have:bj (l++r)=r.foldl (fun a (c:UInt8)=>a*10+(c.toNat-48)) (bj l):=by simp [bj,List.foldl_append]
 rw [this,CK]
theorem p8 (l:List UInt8) (c:UInt8):bj (l++[c])=bj l*10+(c.toNat-48):=by simp [bj]
theorem th (l:List UInt8) (h:∀ c∈l,nE c=true):bj l<10^l.length:=by
 have f:∀ (n:Nat) (l:List UInt8),l.length=n->(∀ c∈l,nE c=true)->bj l<10^l.length:=by
  intro n;induction n with
  | zero=>intro l b _;have:l=[]:=List.eq_nil_of_length_eq_zero b;subst this;simp [bj]
  | succ n ih =>
   intro l b h;have a:l≠[]:=by intro e;subst e;simp at b
   obtain ⟨F,p,rfl⟩:∃ F p,l=F++[p]:=⟨l.dropLast,l.getLast a,(List.dropLast_concat_getLast a).symm⟩;have j:=ih F (by simpa using b) (fun c hc=>h c (by simp [hc]));have i:=h p Z;unfold nE at i;rw [Bool.and_eq_true,decide_eq_true_eq,decide_eq_true_eq] at i;rw [p8,List.length_append,List.length_singleton,Nat.pow_succ];omega
 exact f l.length l rfl h
theorem sL (s:ByteArray) (k:Nat) (h:k<s.size):s.data.toList.take (k+1)=s.data.toList.take k++[s[k]]:=by
 rw [List.take_succ_eq_append_getElem (by simpa using h)];rfl
theorem ly (r:ByteArray) (i:Nat) (h:i<=r.size):(r.extract i r.size).data.toList=r.data.toList.drop i/\(r.extract i r.size).size=r.size-i:=by
 have e:(r.extract i r.size).data.toList=r.data.toList.drop i:=by
  rw [ByteArray.data_extract,Array.toList_extract];show List.take (r.data.size-i) _=_
  rw [zT Z]
 refine ⟨e,?_⟩;rw [Lib.size_eq,e,List.length_drop,Lib.size_eq]
theorem BQ (X D c i n:Nat) (l:List UInt8) (b:l.length=n) (hi:i<=n) (hc:c=bj (l.take i)) (h:X*10^n+bj l=D) (a:X=0∨i=9):(X*1000000000+c)*10^(n-i)+bj (l.drop i)=D:=by
 have e:=mf (l.take i) (l.drop i);rw [List.take_append_drop,List.length_drop,b,<- hc] at e;rw [<- h,e,Nat.add_mul,<- Nat.add_assoc];congr 2
 rcases a with a | a
 ·rw [a];simp
 ·rw [Nat.mul_assoc];congr 1
  rw [show (1000000000:Nat)=10^9 from rfl,<- Nat.pow_add];congr 1
  omega
def ReadR (w:World) (D N:Nat) (dv ov:Value) (wr:World):Prop :=
 ∃ (r:ByteArray) (xs:List Nat),dv=.string r/\gR wr w.heap.size ov xs/\Sm xs/\Tr xs/\w.grownBy wr none/\xs.length+r.size<=N/\ai xs*10^r.size+bj r.data.toList=D/\(∀ c∈r.data.toList,nE c=true)/\(ai xs=0∨r.size % 9=0)
def sizeOfS:Value->Nat
 | .string s=>s.size
 | _=>0
def ChunkR (r:ByteArray) (cv iv:Value) (k:Nat):Prop:=∃ i c:Nat,i<=k/\iv=.int .i64 i/\cv=.int .u32 c/\Hid (c=bj (r.data.toList.take i))
theorem jS (s:ByteArray) (w:World) (hs:s.size<=7000000000000) (hd:∀ c∈s.data.toList,nE c=true) :
  Calls Tryz.prog 168 #[.string s] w fun e w'=>∃ v,e=.returned v/\aT w' v (bj s.data.toList) s.size/\w.grownBy w' none/\bB w v:=by
 have HD:=aa hd;clear hd;go_enter Tryz.func168,Tryz.ntmps168
 go_wp2;go_loopw [0,3] (fun Q ov wr=>Hid (ReadR w (bj s.data.toList) s.size Q ov wr)) (fun Q _ _=>sizeOfS Q)
 case atStart=>exact ⟨s,[],rfl,o9 _ _,Sm.nil,rfl,ag _ _,Z,by simp [ai],HD,.inl rfl⟩
 case round =>
  obtain ⟨r,xs,rfl,K,U,V,X,h5,h6,Y,h8⟩:=hrel.out;obtain ⟨ao,cap,ev,hj,hl,_⟩:=K.open;subst ev;have z:=aa K;have R:=aa U;have S:=aa V;have C:=aa X;have T:=aa h6;have A:=aa Y;have H8:=aa h8;clear K U V X h6 Y h8 hrel;by_cases hr:0<r.size
  ·obtain ⟨k,hk⟩:=eX ((r.size-1) % 9+1);have he:1<=k:=O
   have hf:k<=9:=O
   have p:k<=r.size:=O
   have m:(((r.size:Int)-1) % 9+1)=(k:Int):=O
   have l:(((r.size:Int)-1).tmod 9+1)=(k:Int):=by rw [Int.tmod_eq_emod_of_nonneg O];exact m
   have HK:=aa hk;clear hk;go_wp2;go_loop [5,16] (fun cv iv=>ChunkR r cv iv k) (fun _ iv=>k-(intOf iv).toNat)
   case atStart=>exact ⟨0,0,O,rfl,rfl,by simp [bj,Hid]⟩
   case round =>
    obtain ⟨i,c,hi,rfl,rfl,B⟩:=hrel;by_cases hlt:i<k
    ·have q:i<r.size:=O
     have f:nE r[i]=true:=A.out _ (by
      have:r[i]=r.data.toList[i]'(by simpa using q):=rfl;rw [this];exact List.getElem_mem _)
     unfold nE at f;rw [Bool.and_eq_true,decide_eq_true_eq,decide_eq_true_eq] at f;obtain ⟨hm,ho⟩:=f;have D:c<=99999999:=by
      have E:=th (r.data.toList.take i) (fun c hc=>A c (List.mem_of_mem_take hc));rw [<- B,List.length_take] at E;have F:10^min i r.data.toList.length<=10^8:=Nat.pow_le_pow_right zD O;omega
     have G:=aa (sL r i q);clear m l;go_wp2;go_round
     case rel =>
      refine ⟨i+1,c*10+(r[i].toNat-48),O,zN,zN,?_⟩;show _=_
      rw [G,p8,<- B]
     case measure=>exact bO
    ·obtain rfl:i=k:=O
     have D:c<=999999999:=by
      have E:=th (r.data.toList.take i) (fun c hc=>A c (List.mem_of_mem_take hc));rw [<- B,List.length_take] at E;have F:10^min i r.data.toList.length<=10^9:=Nat.pow_le_pow_right zD O;omega
     clear m l;go_wp2_with fail;refine (Dj _ xs 1000000000 c _ w.heap.size z R O O O C.size).mono ?_;rintro e w2 ⟨v',rfl,a⟩;obtain ⟨M,N,gl,rfl⟩:∃ M N gl,v'=.slice M gl N:=by
      obtain ⟨_,P,_⟩:=a;obtain ⟨M,N,e,_⟩:=P.open;exact ⟨_,_,_,e⟩
     have H:=aa a;clear a;obtain ⟨x,y⟩:=ly r i p;have t:=aa x;have j:=aa y;clear x y;go_wp2;refine ⟨?_,?_⟩
     ·obtain ⟨ys,P,o2,o3,o4,o5,o6⟩:=H.out;have hk:=HK.out;refine ⟨r.extract i r.size,ys,rfl,P,o2,o6 S zD,aj (r2:=au (.slice ao xs.length cap)) C o5 (fun _ _ e=>e) (fun b hb e=>by have:=(z.fresh b e.symm).1;omega),?_,?_,?_,.inr ?_⟩
      ·rw [j];omega
      ·rw [j,t,o3];refine BQ (ai xs) _ c i r.size r.data.toList (by rw [Lib.size_eq]) p B T ?_;rcases H8.out with h | h
       ·exact .inl h
       ·right;omega
      ·rw [t];intro c hc;exact A c (List.mem_of_mem_drop hc)
      ·rw [j];omega
     ·show (r.extract i r.size).size<r.size
      rw [j];omega
  ·have o:r.size=0:=O
   have u:r.data.toList=[]:=List.eq_nil_of_length_eq_zero (by rw [<- Lib.size_eq];exact o);have I:=aa u;have J:=aa o;clear u o;go_wp2;go_ret;refine ⟨_,rfl,?_,C,z.fr⟩;have h6:=T.out;rw [J,I] at h6;have:ai xs=bj s.data.toList:=by
    rw [<- h6];simp [bj]
   rw [<- this];exact z.num R S _ O
def bg (b:Bool) (n d:Nat):Bool×Nat×Nat:=if n=0∨d=0 then (false,0,1) else (b,n / Nat.gcd n d,d / Nat.gcd n d)
def fM (l:List UInt8):List UInt8:=if (Lib.cut l [47]).2.2 then (Lib.cut l [47]).2.1 else [49]
def hJ (l:List UInt8):Bool×Nat×Nat :=
 if cC (Lib.cut (Lib.trimPrefix l [45]) [47]).1 && cC (fM (Lib.trimPrefix l [45])) then
  bg (Lib.hasPrefix l [45]) (bj (Lib.cut (Lib.trimPrefix l [45]) [47]).1) (bj (fM (Lib.trimPrefix l [45])))
 else (false,0,1)
theorem kJ (l a:List UInt8):(Lib.cut l a).1.length<=l.length/\(Lib.cut l a).2.1.length<=l.length:=by
 unfold Lib.cut;split
 ·simp only [List.length_take,List.length_drop];omega
 ·simp
theorem iY (l p:List UInt8):(Lib.trimPrefix l p).length<=l.length:=by
 unfold Lib.trimPrefix;split
 ·simp
 ·exact zL
theorem tV (l:List UInt8):(⟨l.toArray⟩:ByteArray).size=l.length:=by simp [ByteArray.size]
theorem dw {l:List UInt8} (h:cC l=true):∀ c∈l,nE c=true:=by
 unfold cC at h;rw [Bool.and_eq_true] at h;exact fun c hc=>List.all_eq_true.1 h.2 c hc
def OfE (w:World) (l:List UInt8) (L:Nat) (e:Ending) (w':World):Prop:=∃ v,e=.returned v/\FV w' v (hJ l).1 (hJ l).2.1 (hJ l).2.2 L/\w.grownBy w' none
theorem nI (a:Bool) (u d:Value) (n m L:Nat) (w:World) (b:aT w u n L) (hd:aT w d m L) (c:L<=8000000000000) :
  Calls Tryz.prog 167 #[.bool a,u,d] w fun e w'=>gN w (bg a n m).1 (bg a n m).2.1 (bg a n m).2.2 L e w':=by
 by_cases h:n=0∨m=0
 ·have e:bg a n m=(false,0,1):=by unfold bg;rw [if_pos h]
  rw [e];exact vH a u d n m L w b hd h
 ·have e:bg a n m=(a,n / Nat.gcd n m,m / Nat.gcd n m):=by unfold bg;rw [if_neg h]
  rw [e];exact yk a u d n m L w b hd O O c
theorem FV.other {neg:Bool} (h:FV w v neg n d L) (hg:bM w g) (a:w.grownBy w' (some g)):FV w' v neg n d L:=by
 obtain ⟨up,b,e,f,c,i,j⟩:=h;refine ⟨up,b,e,f.other hg a,?_,i,j⟩;rcases c with c | ⟨c,l⟩
 ·exact .inl c
 ·exact .inr ⟨c.other hg a,l⟩
theorem FV.shape {neg:Bool} (h:FV w v neg n d L):∃ uo ul uc do_ dl dc,v=.agg #[.bool neg,.slice uo ul uc,.slice do_ dl dc]:=by
 obtain ⟨up,b,e,c,a,f,i⟩:=h;obtain ⟨uo,ul,uc,rfl,_⟩:=c.shape;rcases a with ⟨rfl,_⟩ | ⟨a,_⟩
 ·exact ⟨_,_,_,_,_,_,e⟩
 ·obtain ⟨do_,dl,dc,rfl,_⟩:=a.shape;exact ⟨_,_,_,_,_,_,e⟩
theorem o8 {l:List UInt8} (h:hJ l=(false,0,1)) (hg:w.grownBy w' none):OfE w l L (.returned (.agg #[.bool false,.slice none 0 0,.slice none 0 0])) w':=by
 refine ⟨_,rfl,?_,hg⟩;rw [h];exact ⟨_,_,rfl,⟨[],Ws.nil _,rfl,rfl,Z⟩,.inl ⟨rfl,rfl⟩,rfl,Z⟩
theorem vO (s:ByteArray) (m:Int) (w:World) (hs:s.size<=600000000) (U:w.cell? ⟨2,0,none⟩=some (.int .i64 m)) :
  Calls Tryz.prog 127 #[.string s] w fun e w'=>OfE w s.data.toList (s.size+1) e w':=by
 have I:(w.alloc (Obj.cells #[Value.bool false,Value.slice none 0 0,Value.slice none 0 0] 85)).cell? ⟨2,0,none⟩=some (.int .i64 m) :=
  (World.grownBy_alloc w _ none).cell U Z
 have hf:=aa I;clear U I;go_enter Tryz.func127,Tryz.ntmps127
 go_wp2_with fail;refine (Tryz.strings_CutPrefix s ⟨#[45]⟩ _).mono ?_;rintro e w1 ⟨rfl,rfl⟩;rw [show (⟨#[45]⟩:ByteArray).data.toList=[45] from rfl];obtain ⟨d,hd⟩:∃ d:ByteArray,d=⟨(Lib.trimPrefix s.data.toList [45]).toArray⟩:=⟨_,rfl⟩;rw [<- hd];have V:Hid (d.data.toList=Lib.trimPrefix s.data.toList [45]):=by rw [hd];rfl
 have hq:d.size<=s.size:=by rw [hd,tV,Lib.size_eq];exact iY _ _
 clear hd;obtain ⟨neg,r⟩:∃ b:Bool,b=Lib.hasPrefix s.data.toList [45]:=⟨_,rfl⟩;rw [<- r];have X:=aa r;clear r;go_wp2_with fail;refine (Tryz.strings_Cut d ⟨#[47]⟩ m _ O hf).mono ?_;rintro e w2 ⟨rfl,q2,rfl⟩;rw [show (⟨#[47]⟩:ByteArray).data.toList=[47] from rfl];obtain ⟨up,F⟩:∃ u:ByteArray,u=⟨(Lib.cut d.data.toList [47]).1.toArray⟩:=⟨_,rfl⟩;obtain ⟨dn,G⟩:∃ u:ByteArray,u=⟨(Lib.cut d.data.toList [47]).2.1.toArray⟩:=⟨_,rfl⟩;obtain ⟨P,t⟩:∃ b:Bool,b=(Lib.cut d.data.toList [47]).2.2:=⟨_,rfl⟩;rw [<- F,<- G,<- t];have hj:Hid (up.data.toList=(Lib.cut d.data.toList [47]).1):=by rw [F];rfl
 have Y:Hid (dn.data.toList=(Lib.cut d.data.toList [47]).2.1):=by rw [G];rfl
 have hr:up.size<=s.size:=by
  have:=(kJ d.data.toList [47]).1;rw [F,tV];rw [<- Lib.size_eq] at this;omega
 have hp:dn.size<=s.size:=by
  have:=(kJ d.data.toList [47]).2;rw [G,tV];rw [<- Lib.size_eq] at this;omega
 have he:=aa t;clear F G t;have q:Hid (∀ x:ByteArray,x.data.toList=(if P then dn.data.toList else [49])->hJ s.data.toList=if cC up.data.toList && cC x.data.toList then bg neg (bj up.data.toList) (bj x.data.toList) else (false,0,1)):=by
  intro x hx;have e:fM (Lib.trimPrefix s.data.toList [45])=x.data.toList:=by
   unfold fM;rw [hx,<- V,he,Y]
  unfold hJ;rw [e,<- V,<- hj,<- X]
 have T:Hid (w.grownBy ((w.alloc (Obj.cells #[Value.bool false,Value.slice none 0 0,Value.slice none 0 0] 85)).drewN q2) none):=ar (ae (ag _ _) _) _;by_cases J:P=true
 ·subst J;have o:=aa (q dn Z);have K:dn.size<=s.size+1:=O
  by_cases ha:cC up.data.toList=true
  ·have i:=aa ha;clear ha;by_cases hb:cC (dn).data.toList=true
   ·have p:=aa hb;clear hb;go_wp2_with (first
     | (go_at_call_of 166 (Value.string up);refine (cB up _ O).mono ?_;rintro e y ⟨rfl,rfl⟩;rw [i])
     | (go_at_call_of 166 (Value.string dn);refine (cB dn _ O).mono ?_;rintro e y ⟨rfl,rfl⟩;rw [p]))
    refine (jS up _ O (dw i)).mono ?_;rintro e y ⟨uv,rfl,Q,n2,n3⟩;have N1:=aa Q;have N2:=aa n2;have N3:=aa n3;obtain ⟨uo,ul,uc,rfl,_,_,_⟩:=Q.shape;clear Q n2 n3;go_wp2_with fail;refine (jS (dn) _ O (dw p)).mono ?_;rintro e w4 ⟨dv,rfl,R,m2,m3⟩;have M1:=aa R;have M:=aa m2;have M3:=aa m3;obtain ⟨ho,dl,dc,rfl,_,_,_⟩:=R.shape;clear R m2 m3;go_wp2_with fail;refine (nI neg _ _ _ _ (s.size+1) _ ((N1.keep0 M).mono O) (M1.mono K) O).mono ?_;intro e w5 hL;obtain ⟨v,rfl,f1,S⟩:=hL;have K5:=aa (ab (bG q2) (ab N2 (ab M S)));have G5:=aa (ab T (ab N2 (ab M S)));have NW:=aa (bu K5);obtain ⟨z,A,B,C,D,E,ev⟩:=f1.shape;have F1:=aa f1;obtain ⟨c0,c1,c2,H⟩:=aV K5;have hk:=H 0;have hl:=H 1;have hm:=H 2;subst ev;have f:=o.out;rw [i,p] at f;simp only [Bool.and_self,if_true] at f;have h:=aa f;obtain ⟨j,l⟩:∃ b:Bool,b=(bg neg (bj up.data.toList) (bj (dn).data.toList)).1:=⟨_,rfl⟩;rw [<- l];have N:=aa l;clear f1 S H o f l;go_wp2;refine bodyPost_ret (v:=.agg #[.bool j,.slice z A B,.slice C D E]) (by simp [results,Tryz.results127,go_sem,c0,c1,c2]) rfl ?_;refine ⟨_,rfl,?_,mR G5 bH zL⟩;rw [h];have:=F1.out.other NW (bH (a:=.bool j) (b:=.slice z A B) (c:=.slice C D E));rw [<- N] at this ⊢
    exact this
   ·have p:Hid (cC (dn).data.toList=false):=aa (by simpa using hb);clear hb;have f:=o.out;rw [i,p] at f;simp at f;have h:=aa f;clear f o;go_wp2_with (first
     | (go_at_call_of 166 (Value.string up);refine (cB up _ O).mono ?_;rintro e y ⟨rfl,rfl⟩;rw [i])
     | (go_at_call_of 166 (Value.string dn);refine (cB dn _ O).mono ?_;rintro e y ⟨rfl,rfl⟩;rw [p]))
    refine bodyPost_ret (v:=.agg #[.bool false,.slice none 0 0,.slice none 0 0]) (by simp [results,Tryz.results127,go_sem]) rfl ?_;exact o8 h (mR T bH zL)
  ·have i:Hid (cC up.data.toList=false):=aa (by simpa using ha);clear ha;have f:=o.out;rw [i] at f;simp at f;have h:=aa f;clear f o;go_wp2_with (first
    | (go_at_call_of 166 (Value.string up);refine (cB up _ O).mono ?_;rintro e y ⟨rfl,rfl⟩;rw [i]))
   refine bodyPost_ret (v:=.agg #[.bool false,.slice none 0 0,.slice none 0 0]) (by simp [results,Tryz.results127,go_sem]) rfl ?_;exact o8 h (mR T bH zL)
 ·obtain rfl:P=false:=by simpa using J
  clear J;have o:=aa (q (⟨#[49]⟩:ByteArray) (by rfl));have K:(⟨#[49]⟩:ByteArray).size<=s.size+1:=by have:(⟨#[49]⟩:ByteArray).size=1:=rfl;omega
  by_cases ha:cC up.data.toList=true
  ·have i:=aa ha;clear ha;by_cases hb:cC ((⟨#[49]⟩:ByteArray)).data.toList=true
   ·have p:=aa hb;clear hb;go_wp2_with (first
     | (go_at_call_of 166 (Value.string up);refine (cB up _ O).mono ?_;rintro e y ⟨rfl,rfl⟩;rw [i])
     | (go_at_call_of 166 (Value.string (⟨#[49]⟩:ByteArray));refine (cB (⟨#[49]⟩:ByteArray) _ O).mono ?_;rintro e y ⟨rfl,rfl⟩;rw [p]))
    refine (jS up _ O (dw i)).mono ?_;rintro e y ⟨uv,rfl,Q,n2,n3⟩;have N1:=aa Q;have N2:=aa n2;have N3:=aa n3;obtain ⟨uo,ul,uc,rfl,_,_,_⟩:=Q.shape;clear Q n2 n3;go_wp2_with fail;refine (jS ((⟨#[49]⟩:ByteArray)) _ O (dw p)).mono ?_;rintro e w4 ⟨dv,rfl,R,m2,m3⟩;have M1:=aa R;have M:=aa m2;have M3:=aa m3;obtain ⟨ho,dl,dc,rfl,_,_,_⟩:=R.shape;clear R m2 m3;go_wp2_with fail;refine (nI neg _ _ _ _ (s.size+1) _ ((N1.keep0 M).mono O) (M1.mono K) O).mono ?_;intro e w5 hL;obtain ⟨v,rfl,f1,S⟩:=hL;have K5:=aa (ab (bG q2) (ab N2 (ab M S)));have G5:=aa (ab T (ab N2 (ab M S)));have NW:=aa (bu K5);obtain ⟨z,A,B,C,D,E,ev⟩:=f1.shape;have F1:=aa f1;obtain ⟨c0,c1,c2,H⟩:=aV K5;have hk:=H 0;have hl:=H 1;have hm:=H 2;subst ev;have f:=o.out;rw [i,p] at f;simp only [Bool.and_self,if_true] at f;have h:=aa f;obtain ⟨j,l⟩:∃ b:Bool,b=(bg neg (bj up.data.toList) (bj ((⟨#[49]⟩:ByteArray)).data.toList)).1:=⟨_,rfl⟩;rw [<- l];have N:=aa l;clear f1 S H o f l;go_wp2;refine bodyPost_ret (v:=.agg #[.bool j,.slice z A B,.slice C D E]) (by simp [results,Tryz.results127,go_sem,c0,c1,c2]) rfl ?_;refine ⟨_,rfl,?_,mR G5 bH zL⟩;rw [h];have:=F1.out.other NW (bH (a:=.bool j) (b:=.slice z A B) (c:=.slice C D E))
    rw [<- N] at this ⊢;exact this
   ·have p:Hid (cC ((⟨#[49]⟩:ByteArray)).data.toList=false):=aa (by simpa using hb);clear hb;have f:=o.out;rw [i,p] at f;simp at f;have h:=aa f;clear f o;go_wp2_with (first
     | (go_at_call_of 166 (Value.string up);refine (cB up _ O).mono ?_;rintro e y ⟨rfl,rfl⟩;rw [i])
     | (go_at_call_of 166 (Value.string (⟨#[49]⟩:ByteArray));refine (cB (⟨#[49]⟩:ByteArray) _ O).mono ?_;rintro e y ⟨rfl,rfl⟩;rw [p]))
    refine bodyPost_ret (v:=.agg #[.bool false,.slice none 0 0,.slice none 0 0]) (by simp [results,Tryz.results127,go_sem]) rfl ?_;exact o8 h (mR T bH zL)
  ·have i:Hid (cC up.data.toList=false):=aa (by simpa using ha);clear ha;have f:=o.out;rw [i] at f;simp at f;have h:=aa f;clear f o;go_wp2_with (first
    | (go_at_call_of 166 (Value.string up);refine (cB up _ O).mono ?_;rintro e y ⟨rfl,rfl⟩;rw [i]))
   refine bodyPost_ret (v:=.agg #[.bool false,.slice none 0 0,.slice none 0 0]) (by simp [results,Tryz.results127,go_sem]) rfl ?_;exact o8 h (mR T bH zL)
def mA (w wr:World) (xs ys:List Nat) (i:Nat):Prop :=
 ∃ done:List Nat,done.length=i+ys.length/\Sm done/\ch wr w.heap.size (done++List.replicate (xs.length-i) 0)/\w.grownBy wr none/\ai done=ai (xs.take i)*ai ys
def l9 (w wr:World) (xs ys:List Nat) (i j x c:Nat):Prop :=
 ∃ done mid:List Nat,done.length=i+ys.length/\mid.length=j/\Sm done/\Sm mid/\ch wr w.heap.size (done.take i++mid++done.drop (i+j)++List.replicate (xs.length-i) 0)/\w.grownBy wr none /\
  ai done=ai (xs.take i)*ai ys/\ai mid+4294967296^j*c=ai ((done.drop i).take j)+x*ai (ys.take j)
theorem mA.inn {i:Nat} (h:mA w wr xs ys i) (x:Nat):l9 w wr xs ys i 0 x 0:=by
 obtain ⟨done,a,b,c,e,f⟩:=h;refine ⟨done,[],a,rfl,b,Sm.nil,?_,e,f,by simp [ai]⟩;rw [List.append_nil,Nat.add_zero,List.take_append_drop];exact c
theorem l9.at {i j x c:Nat} (h:l9 w wr xs ys i j x c) (s:j<ys.length) :
  ∃ r,r<4294967296/\wr.cell? ⟨w.heap.size,i+j,none⟩=some (.int .u32 (r:Nat))/\wr.frozen? ⟨w.heap.size,i+j,none⟩=false /\
   ∀ (y:Nat) (z:Int),y=ys[j]->z=(((c+(x*y+r)) % 4294967296:Nat):Int)->l9 w (wr.setCell ⟨w.heap.size,i+j,none⟩ (.int .u32 z)) xs ys i (j+1) x ((c+(x*y+r)) / 4294967296):=by
 obtain ⟨done,a,A,b,q,o,p,B,C,D⟩:=h;have hd:i+j<done.length:=O
 have e:done.drop (i+j)=done[i+j] :: done.drop (i+j+1):=List.drop_eq_getElem_cons hd;have f:(done.take i).length=i:=by rw [List.length_take];omega
 have l:(done.take i++a++done.drop (i+j)++List.replicate (xs.length-i) 0)[i+j]? = some done[i+j]:=by
  rw [List.append_assoc,List.getElem?_append_right (by simp [f,b]),e];have m:i+j-(done.take i++a).length=0:=by simp [f,b]
  rw [m];rfl
 have hlt:i+j<(done.take i++a++done.drop (i+j)++List.replicate (xs.length-i) 0).length:=(zY l).1;refine ⟨done[i+j],q.get _ hd,?_,p.free _,?_⟩
 ·rw [p.cell (i+j) hlt,(zY l).2]
 ·intro y z hy u;refine ⟨done,a++[(c+(x*y+done[i+j])) % 4294967296],A,by simp [b],q,o.snoc _,?_,ah B _ _ zL,C,?_⟩
  ·have:=p.set (i+j) ((c+(x*y+done[i+j])) % 4294967296);rw [u];have t:(done.take i++a++done.drop (i+j)++List.replicate (xs.length-i) 0).set (i+j) ((c+(x*y+done[i+j])) % 4294967296)
     = done.take i++(a++[(c+(x*y+done[i+j])) % 4294967296])++done.drop (i+(j+1))++List.replicate (xs.length-i) 0:=by
    rw [e,List.append_assoc,List.set_append_right _ _ (by simp [f,b])];have m:i+j-(done.take i++a).length=0:=by simp [f,b]
    rw [m];simp [Nat.add_assoc]
   rw [t] at this;exact this
  ·rw [aS,b,Nat.pow_succ,Nat.add_assoc,fL,Nat.mul_add,<- Nat.add_assoc,D,aw ys j s,<- hy,
    aw (done.drop i) j (by rw [List.length_drop];omega),List.getElem_drop,Nat.mul_add (4294967296^j),Nat.mul_add x]
   rw [show x*(4294967296^j*y)=4294967296^j*(x*y) from by rw [Nat.mul_left_comm]];omega
theorem l9.out {i x c:Nat} (h:l9 w wr xs ys i ys.length x c) (hi:i<xs.length) (m:x=xs[i]) (hc:c<4294967296) (z:Int) (o:z=(c:Int)) :
  wr.frozen? ⟨w.heap.size,i+ys.length,none⟩=false/\(∃ v,wr.cell? ⟨w.heap.size,i+ys.length,none⟩=some v) /\
  mA w (wr.setCell ⟨w.heap.size,i+ys.length,none⟩ (.int .u32 z)) xs ys (i+1):=by
 obtain ⟨done,e,y,b,r,j,f,s,t,u⟩:=h;have a:(done.take i).length=i:=by rw [List.length_take];omega
 have p:done.drop (i+ys.length)=[]:=List.drop_of_length_le O;rw [p,List.append_nil] at f;have l:(done.take i++e).length=i+ys.length:=by simp [a,b]
 refine ⟨f.free _,⟨_,f.cell (i+ys.length) (by simp [a,b];omega)⟩,?_⟩;have:=f.set (i+ys.length) c;rw [dW _ _ _ _ l O] at this;rw [o];refine ⟨done.take i++e++[c],by simp [a,b];omega,((r.take _).append j).append (Sm.cons hc Sm.nil),?_,ah s _ _ zL,?_⟩
 ·rw [show xs.length-(i+1)=xs.length-i-1 from O];exact this
 ·rw [aS,l,bL,a,Nat.pow_add,Nat.mul_assoc,Nat.add_assoc,<- Nat.mul_add,u,show (done.drop i).take ys.length=done.drop i from zT (by rw [List.length_drop];omega),show ys.take ys.length=ys from zT zL,
   aw xs i hi,<- m,Nat.add_mul,<- t,Nat.mul_add,<- Nat.add_assoc]
  have q:ai done=ai (done.take i)+4294967296^i*ai (done.drop i):=by
   have:=bL (done.take i) (done.drop i);rw [List.take_append_drop,a] at this;exact this
  rw [q,Nat.mul_assoc]
theorem uf (J K:Value) (xs ys:List Nat) (w:World) (ha:Ws w J xs) (hb:Ws w K ys) (hl:xs.length+ys.length<=10000000000000) :
  Calls Tryz.prog 70 #[J,K] w fun e w'=>∃ v',e=.returned v'/\ik w' w.heap.size v' (ai xs*ai ys) (xs.length+ys.length)/\w.grownBy w' none:=by
 obtain ⟨ao,ca,rfl,ho,s,N⟩:=ha.open;obtain ⟨bo,cb,rfl,hq,t,P⟩:=hb.open;unfold maxLen at s t;have T:=aa N;have U:=aa P;have V:=aa ha.sm;have X:=aa hb.sm;clear N P ha hb;go_enter Tryz.func70,Tryz.ntmps70
 go_wp2_with (at_make;refine aC _ rfl _ _ 83 rfl Tryz.underlying83 Tryz.info32 _ _ _ _ (xs.length+ys.length) rfl rfl O O O ?_)
 intro w1 m q;have Y:=aa m;have HG:=aa q;clear m q;go_wp2;go_loopw [19] (fun i wr=>∃ k:Nat,k<=xs.length/\i=.int .i64 k/\Hid (mA w wr xs ys k)) (fun i _=>xs.length-(intOf i).toNat)
 case atStart=>exact ⟨0,Nat.zero_le _,rfl,List.replicate ys.length 0,Z,Sm.replicate _,by
  have:=Y.out;rw [Nat.add_comm,<- List.replicate_append_replicate] at this;exact this,HG,by simp [ai,iZ]⟩
 case round =>
  obtain ⟨i,hk,rfl,A⟩:=hrel;by_cases hlt:i<xs.length
  ·obtain ⟨b,off,rfl,hs,a⟩:=aG T i hlt;have C:=(aG V).get i hlt;obtain ⟨x,ex⟩:=eX (xs[i]);rw [<- ex] at a C;have EX:=aa ex;have HC:=aa a;have p:wr.cell? ⟨b,off+i,none⟩=some (.int .u32 (x:Nat)):=by
    obtain ⟨_,_,_,_,u,_⟩:=A.out;exact u.cell a Z
   clear ex a;go_wp2;clear p;go_loopw [8,26] (fun cv I wr=>∃ j c:Nat,j<=ys.length/\c<4294967296/\I=.int .i64 j/\cv=.int .u64 c/\Hid (l9 w wr xs ys i j x c)) (fun _ I _=>ys.length-(intOf I).toNat)
   case atStart=>exact ⟨0,0,Nat.zero_le _,O,rfl,rfl,mA.inn A x⟩
   case round =>
    clear A;obtain ⟨j,c,hj,hc,rfl,rfl,E⟩:=hrel;have hg:w.grownBy wr none:=by
     obtain ⟨_,_,_,_,_,_,_,u,_,_⟩:=E.out;exact u
    by_cases h:j<ys.length
    ·obtain ⟨b2,z,rfl,Q,f⟩:=aG U j h;have hy:=(aG X).get j h;obtain ⟨y,F⟩:=eX (ys[j]);rw [<- F] at f hy;have he:wr.cell? ⟨b2,z+j,none⟩=some (.int .u32 (y:Nat)):=hg.cell f Z;have hf:wr.cell? ⟨b,off+i,none⟩=some (.int .u32 (x:Nat)):=hg.cell HC Z;obtain ⟨r,hr,hu,G,l⟩:=E.out.at h;have HS:=aa (l y);have EY:=aa F;have hp:(x:Int)*(y:Int)<=18446744065119617025:=mq x y C hy;have hm:0<=(x:Int)*(y:Int):=Int.mul_nonneg O O;clear f l F hg;go_wp2;go_roundw
     case rel=>exact ⟨j+1,(c+(x*y+r)) / 4294967296,O,uF x y c r C hy hc hr,zN,by rw [pW],HS _ EY (by rw [nY])⟩
     case measure=>exact bO
    ·obtain rfl:j=ys.length:=O
     obtain ⟨G,⟨v0,hv⟩,o⟩:=E.out.out hlt EX hc _ rfl;have HO:=aa o;clear o;go_wp2;go_roundw
     case rel=>exact ⟨i+1,O,zN,HO⟩
     case measure=>exact bO
  ·obtain rfl:i=xs.length:=O
   go_wp2_with fail;obtain ⟨done,B,R,H,u,S⟩:=A.out;rw [Nat.sub_self,List.replicate_zero,List.append_nil] at H;have D:=H.own (base:=w.heap.size) zL (by rw [B];unfold maxLen;omega);have H1:=aa B;have M:=aa R;have H3:=aa S;rw [B] at D;clear B S H R;refine (lB _ done _ w.heap.size D M).mono ?_;rintro e w2 ⟨v',rfl,rfl,k1,k2⟩;clear D;go_wp2;go_ret;refine ⟨v',rfl,⟨_,k1,M.out.trimL,Tr.trimL _,?_,?_⟩,u⟩
   ·rw [fm,H3,zT zL]
   ·have:=aY done;rw [H1] at this;exact this
theorem Cd (a b:Value) (m n L M:Nat) (w:World) (ha:aT w a m L) (hb:aT w b n M) (l:L+M<=10000000000000) :
  Calls Tryz.prog 70 #[a,b] w fun e w'=>∃ v',e=.returned v'/\ik w' w.heap.size v' (m*n) (L+M)/\w.grownBy w' none:=by
 obtain ⟨xs,c,o,f,p⟩:=ha;obtain ⟨ys,h,q,i,r⟩:=hb;refine (uf a b xs ys w c h O).mono ?_;rintro e w' ⟨v',rfl,k1,j⟩;rw [f,i] at k1;exact ⟨v',rfl,k1.mono O,j⟩
theorem ie (a b:Value) (m n L M:Nat) (w:World) (ha:aT w a m L) (hb:aT w b n M) (c:L+M<=10000000000000) :
  Calls Tryz.prog 70 #[a,b] w fun e w'=>∃ v',e=.returned v'/\aT w' v' (m*n) (L+M)/\w.grownBy w' none/\bB w v':=by
 refine (Cd a b m n L M w ha hb c).mono ?_;rintro e w' ⟨v',rfl,k1,f⟩;exact ⟨v',rfl,k1.num,f,fun k h=>(k1.fresh k h).1⟩
theorem Bq (c:Tr xs) (h:ai xs<4294967296^L):xs.length<=L:=by
 by_cases b:xs=[]
 ·subst b;simp
 ·have e:=jz c b;have f:xs.length-1<L:=(Nat.pow_lt_pow_iff_right (a:=4294967296) zD).1 (Nat.lt_of_le_of_lt e h);have:0<xs.length:=List.length_pos_iff.2 b;omega
theorem aT.tight {L':Nat} (h:aT w v n L) (hn:n<4294967296^L'):aT w v n L':=by
 obtain ⟨xs,c,a,b,e⟩:=h;exact ⟨xs,c,a,b,Bq a (by rw [b];exact hn)⟩
theorem iL {w1 a:World} {r:Option Nat} (h:w.grownBy w1 none) (k:w1.grownBy a r) (hb:∀ b,r=some b->w.heap.size<=b):w.grownBy a none :=
 aj h k (fun _ _ e=>e) (fun b c e=>by have:=hb b e.symm;omega)
theorem aJ {u x:Value} (h:(w.alloc (Obj.cells #[u,v,x] 85)).grownBy W none):W.cell? ⟨w.heap.size,0,none⟩=some u/\W.cell? ⟨w.heap.size,1,none⟩=some v/\W.cell? ⟨w.heap.size,2,none⟩=some x:=by
 have e:W.heap[w.heap.size]? = some (Obj.cells #[u,v,x] 85 (0,0)):=by
  rw [h.block w.heap.size Z Z];exact heap_alloc_new w _
 refine ⟨?_,?_,?_⟩<;>simp [World.cell?,e]
theorem Ae (w:World):aT (w.alloc (Obj.cells #[Value.int IntKind.u32 1] 115)) (.slice (some ⟨w.heap.size,0,none⟩) 1 1) 1 1:=by
 have ha:ch (w.alloc (Obj.cells #[Value.int IntKind.u32 1] 115)) w.heap.size [1]:=by
  unfold ch;show (w.heap.push _)[w.heap.size]? = _
  rw [Array.getElem?_push_size];rfl
 exact ⟨[1],ha.ws (Sm.cons zD Sm.nil) (by unfold maxLen;simp),by simp [Tr,aR],by simp [ai],Z⟩
def NumE (w:World) (n L:Nat) (e:Ending) (w':World):Prop:=∃ v,e=.returned v/\aT w' v n L/\w.grownBy w' none
theorem iq (x:Value) (neg:Bool) (n d L:Nat) (w:World) (o:FV w x neg n d L) :
  Calls Tryz.prog 72 #[x] w fun e w'=>NumE w d (L+1) e w':=by
 obtain ⟨up,b,rfl,h1,a,c,f⟩:=o;obtain ⟨h,i,j,rfl,_⟩:=h1.shape;rcases a with ⟨rfl,rfl⟩ | ⟨a,hd⟩
 ·clear h1 c f;go_enter Tryz.func72,Tryz.ntmps72
  go_wp2;go_ret;have h1:=Ae (w.alloc (Obj.cells #[.bool neg,.slice h i j,.slice none 0 0] 85));have p:(w.alloc (Obj.cells #[.bool neg,.slice h i j,.slice none 0 0] 85)).heap.size=w.heap.size+1:=Z
  rw [p] at h1;exact ⟨_,rfl,aT.mono (L:=1) (L':=L+1) h1 (Nat.le_add_left 1 L),ae (ae (ag _ _) _) _⟩
 ·obtain ⟨r,l,t,rfl,m,u,s⟩:=a.shape;unfold maxLen at s;have hb:(((l:Nat):Int)==0)=false:=zB (by
   intro e;have:l=0:=O
   have:=m.1 this;omega)
  have q:=aa a;clear h1 a c f m;go_enter Tryz.func72,Tryz.ntmps72
  go_wp2;go_ret;exact ⟨_,rfl,(q.keep0 (ae (ag _ _) _)).mono O,ae (ag _ _) _⟩
theorem cP (a:Option Addr) (c f:Nat) (b:Bool) (w:World) :
  Calls Tryz.prog 68 #[.agg #[.bool b,.slice a c f,.slice none 0 0]] w fun e w'=>e=.returned (.bool true)/\w.grownBy w' none:=by
 go_enter Tryz.func68,Tryz.ntmps68
 go_wp2;go_ret;exact ⟨rfl,ae (ag _ _) _⟩
theorem fO (i c:Option Addr) (j l a f:Nat) (b:Bool) (w:World) (h:0<a) (o:a<=f) (m:f<=maxLen) :
  Calls Tryz.prog 68 #[.agg #[.bool b,.slice i j l,.slice c a f]] w fun e w'=>e=.returned (.bool false)/\w.grownBy w' none:=by
 unfold maxLen at m;have hb:(((a:Nat):Int)==0)=false:=zB O;go_enter Tryz.func68,Tryz.ntmps68
 go_wp2;go_ret;exact ⟨rfl,ae (ag _ _) _⟩
theorem oW (x y:Value) (n m L:Nat) (w:World) (a:aT w x n L) (hy:aT w y m L) (p:0<n∨0<m) (b:L<=8000000000000) :
  Calls Tryz.prog 71 #[x,y] w fun e w'=>GcdE w (Nat.gcd n m) L e w':=by
 obtain ⟨xs,c,f,h,i⟩:=a;obtain ⟨ys,k1,j,l,o⟩:=hy;rw [<- h,<- l];exact jk x y xs ys w c k1 f j O L i o b
theorem yi (b:Bool) (k A B:Nat) (c:0<k):bg b (k*A) (k*B)=bg b A B:=by
 unfold bg;rw [Nat.gcd_mul_left];by_cases h:A=0∨B=0
 ·have a:k*A=0∨k*B=0:=by
   rcases h with h | h
   ·exact .inl (by rw [h,Nat.mul_zero])
   ·exact .inr (by rw [h,Nat.mul_zero])
  rw [if_pos h,if_pos a]
 ·have a:¬ (k*A=0∨k*B=0):=by
   intro a;rcases a with a | a <;> rcases Nat.mul_eq_zero.1 a with e | e
   ·omega
   ·exact h (.inl e)
   ·omega
   ·exact h (.inr e)
  rw [if_neg h,if_neg a,Nat.mul_div_mul_left _ _ c,Nat.mul_div_mul_left _ _ c]
theorem oz (b:Bool) (n m:Nat) (a:0<n) (c:0<m) (h:Nat.gcd n m=1):bg b n m=(b,n,m):=by
 unfold bg;rw [if_neg O,h,Nat.div_one,Nat.div_one]
theorem zh {a b l:Nat} (h:Nat.gcd a b=1) (c:k∣a) (e:l∣b):Nat.Coprime (a / k) (b / l) :=
 Nat.Coprime.coprime_dvd_left (Nat.div_dvd_of_dvd c) (Nat.Coprime.coprime_dvd_right (Nat.div_dvd_of_dvd e) h)
theorem AY {c a e b:Nat} (f:Nat.gcd c a=1) (h:Nat.gcd e b=1) (i:0<a) (j:0<b) :
  Nat.gcd (c / Nat.gcd c b*(e / Nat.gcd e a)) (a / Nat.gcd e a*(b / Nat.gcd c b))=1:=by
 have l:0<Nat.gcd c b:=Nat.gcd_pos_of_pos_right _ j;have m:0<Nat.gcd e a:=Nat.gcd_pos_of_pos_right _ i;have o:=zh f (Nat.gcd_dvd_left c b) (Nat.gcd_dvd_right e a);have p:Nat.Coprime (c / Nat.gcd c b) (b / Nat.gcd c b):=Nat.coprime_div_gcd_div_gcd l;have q:Nat.Coprime (e / Nat.gcd e a) (a / Nat.gcd e a):=Nat.coprime_div_gcd_div_gcd m;have r:=zh h (Nat.gcd_dvd_left e a) (Nat.gcd_dvd_right c b);exact Nat.Coprime.mul_left (Nat.Coprime.mul_right o p) (Nat.Coprime.mul_right q r)
theorem AZ (b:Bool) {e a f c:Nat} (h:0<a) (i:0<c) :
  bg b (e / Nat.gcd e c*(f / Nat.gcd f a)) (a / Nat.gcd f a*(c / Nat.gcd e c))=bg b (e*f) (a*c):=by
 have j:0<Nat.gcd e c:=Nat.gcd_pos_of_pos_right _ i;have l:0<Nat.gcd f a:=Nat.gcd_pos_of_pos_right _ h;rw [<- yi b (Nat.gcd e c*Nat.gcd f a) _ _ (Nat.mul_pos j l)];have m:=Nat.mul_div_cancel' (Nat.gcd_dvd_left e c);have o:=Nat.mul_div_cancel' (Nat.gcd_dvd_left f a);have p:=Nat.mul_div_cancel' (Nat.gcd_dvd_right e c);have q:=Nat.mul_div_cancel' (Nat.gcd_dvd_right f a);congr 1
 ·rw [Nat.mul_mul_mul_comm,m,o]
 ·rw [Nat.mul_comm (a / _),Nat.mul_mul_mul_comm,p,q,Nat.mul_comm]
theorem lx (a:Bool) (u d:Value) (n m L:Nat) (w:World) (j:aT w u n L) (hd:aT w d m L) (D:0<m) (hc:n=0∨Nat.gcd n m=1) :
  Calls Tryz.prog 69 #[.bool a,u,d] w fun e w'=>gN w (bg a n m).1 (bg a n m).2.1 (bg a n m).2.2 L e w':=by
 obtain ⟨A,f,B,rfl,u1,u2,u3⟩:=j.shape;obtain ⟨r,G,H,rfl,C,K,I⟩:=hd.shape;unfold maxLen at u3 I;have s:w.grownBy (w.alloc (Obj.cells #[Value.bool false,Value.slice none 0 0,Value.slice none 0 0] 85)) none:=ae (ag w none) _;have t:=aa s;clear s;by_cases l:n=0
 ·subst l;obtain rfl:f=0:=u1.2 rfl;have e:bg a 0 m=(false,0,1):=by unfold bg;rw [if_pos (.inl rfl)]
  rw [e];have c:gN w false 0 1 L (.returned (.agg #[.bool false,.slice none 0 0,.slice none 0 0])) (w.alloc (Obj.cells #[Value.bool false,Value.slice none 0 0,Value.slice none 0 0] 85)) :=
   ⟨_,rfl,⟨_,_,rfl,⟨[],Ws.nil _,rfl,rfl,Z⟩,.inl ⟨rfl,rfl⟩,rfl,Z⟩,ae (ag _ _) _⟩
  have i:=aa c;clear c j hd u1 C hc e;go_enter Tryz.func69,Tryz.ntmps69
  go_wp2;exact bodyPost_ret (v:=.agg #[.bool false,.slice none 0 0,.slice none 0 0]) (by simp [results,Tryz.results69,go_sem]) rfl i
 ·have E:0<f:=by
   rcases zP f with h | h
   ·exact absurd (u1.1 h) l
   ·exact h
  have F:(((f:Nat):Int)==0)=false:=zB O;have hg:Nat.gcd n m=1:=by
   rcases hc with h | h
   ·exact absurd h l
   ·exact h
  rw [oz a n m O D hg];have x:=aa j;have p:=aa hd;have y:=aa hg;have z:Hid (0<n):=by show 0<n;omega
  clear j hd u1 C hc hg l;by_cases o:m=1
  ·have b:=aa o;clear o;go_enter Tryz.func69,Tryz.ntmps69
   go_wp2_with fail;refine (rU _ L _ (by have:=p.out.keep0 t;rw [b] at this;exact this)).mono ?_;rintro e J ⟨rfl,rfl⟩;go_wp2;refine bodyPost_ret (v:=.agg #[.bool a,.slice A f B,.slice none 0 0]) (by simp [results,Tryz.results69,go_sem]) rfl ?_;exact ⟨_,rfl,⟨_,_,rfl,x.keep0 (ae (ag _ _) _),.inl ⟨rfl,b⟩,y,fun _=>z⟩,ae (ag _ _) _⟩
  ·have b:=aa o;have q:Hid (1<m):=by show 1<m;omega
   clear o;go_enter Tryz.func69,Tryz.ntmps69
   go_wp2_with fail;refine (vj _ m L _ (p.keep0 t) b).mono ?_;rintro e J ⟨rfl,rfl⟩;go_wp2;refine bodyPost_ret (v:=.agg #[.bool a,.slice A f B,.slice r G H]) (by simp [results,Tryz.results69,go_sem]) rfl ?_;exact ⟨_,rfl,⟨_,_,rfl,x.keep0 (ae (ag _ _) _),.inr ⟨p.keep0 (ae (ag _ _) _),q⟩,y,fun _=>z⟩,ae (ag _ _) _⟩
theorem aX : w.grownBy w.drew none:=ar (ag _ _) 1
theorem aT.lt (h:aT w v n L):n<4294967296^L:=by
 obtain ⟨xs,a,e,b,c⟩:=h;rw [<- b];exact Nat.lt_of_lt_of_le (bD a.sm) (Nat.pow_le_pow_right zD c)
theorem FV.down_le {b:Bool} (h:FV w v b n d L):0<d/\d<=4294967296^L:=by
 obtain ⟨up,c,_,_,a,_,_⟩:=h;rcases a with ⟨_,rfl⟩ | ⟨a,e⟩
 ·exact ⟨zD,Nat.pow_pos zD⟩
 ·exact ⟨O,Nat.le_of_lt a.lt⟩
theorem FV.cop {b:Bool} (h:FV w v b n d L):Nat.gcd n d=1:=by
 obtain ⟨up,a,_,_,_,h,_⟩:=h;exact h
theorem nO (h:n<=4294967296^L):n<4294967296^(L+1):=by
 have:=(Nat.pow_lt_pow_iff_right (a:=4294967296) zD).2 (Nat.lt_succ_self L);exact Nat.lt_of_le_of_lt h this
theorem tq (j p:Option Addr) (l m q r:Nat) (b c:Bool) (f s h t:Nat) (w:World) (J:aT w (.slice j l m) f s) (hy:aT w (.slice p q r) h t) (hl:s+t<=7000000000000) :
  Calls Tryz.prog 38 #[.agg #[.bool b,.slice j l m,.slice none 0 0],.agg #[.bool c,.slice p q r,.slice none 0 0]] w fun e w'=>gN w (bg (b != c) (f*h) 1).1 (bg (b != c) (f*h) 1).2.1 (bg (b != c) (f*h) 1).2.2 (s+t+1) e w':=by
 have Y:=aa J;have NY:=aa hy;clear J hy;obtain ⟨W,u⟩:=eX (((w.alloc (Obj.cells #[.bool b,.slice j l m,.slice none 0 0] 85)).alloc (Obj.cells #[.bool c,.slice p q r,.slice none 0 0] 85)).alloc (Obj.cells #[.bool false,.slice none 0 0,.slice none 0 0] 85));have A:Hid (w.grownBy W none):=by rw [u];exact ae (ae (ae (ag _ _) _) _) _
 have NW:Hid (∀ wx,W.grownBy wx none->bM wx (w.heap.size+1+1)):=by
  intro wx hg;rw [u] at hg;have:=bu hg;simpa using this
 have a:Hid (∀ wx,W.grownBy wx none->(wx.cell? ⟨w.heap.size,0,none⟩=some (.bool b)/\wx.cell? ⟨w.heap.size,1,none⟩=some (.slice j l m)/\wx.cell? ⟨w.heap.size,2,none⟩=some (.slice none 0 0))/\(wx.cell? ⟨w.heap.size+1,0,none⟩=some (.bool c)/\wx.cell? ⟨w.heap.size+1,1,none⟩=some (.slice p q r)/\wx.cell? ⟨w.heap.size+1,2,none⟩=some (.slice none 0 0))/\(wx.cell? ⟨w.heap.size+1+1,0,none⟩=some (.bool false)/\wx.cell? ⟨w.heap.size+1+1,1,none⟩=some (.slice none 0 0)/\wx.cell? ⟨w.heap.size+1+1,2,none⟩=some (.slice none 0 0))/\∀ i,wx.frozen? ⟨w.heap.size+1+1,i,none⟩=false):=by
  intro wx hg;rw [u] at hg;have K:=aJ (ab (ae (ae (ag _ none) _) _) hg);have M:=aJ (w:=w.alloc (Obj.cells #[.bool b,.slice j l m,.slice none 0 0] 85)) (ab (ae (ag _ none) _) hg);have o:=aV hg;have e3:((w.alloc (Obj.cells #[.bool b,.slice j l m,.slice none 0 0] 85)).alloc (Obj.cells #[.bool c,.slice p q r,.slice none 0 0] 85)).heap.size=w.heap.size+1+1:=Z
  rw [e3] at o;refine ⟨K,by simpa using M,?_,?_⟩
  ·exact ⟨o.1,o.2.1,o.2.2.1⟩
  ·exact o.2.2.2
 obtain ⟨⟨s0,s1,s2⟩,⟨t0,t1,t2⟩,⟨r0,r1,r2⟩,rf⟩:=a.out W (ag _ _);clear rf;have N:¬ w.heap.size+1+1=w.heap.size:=O
 have P:¬ w.heap.size=w.heap.size+1+1:=O
 have Q:¬ w.heap.size+1+1=w.heap.size+1:=O
 go_enter Tryz.func38,Tryz.ntmps38
 go_wp2_with fail;rw [<- u];clear u;refine (cP _ _ _ _ _).mono ?_;rintro e w1 ⟨rfl,y⟩;have G1:=aa y;obtain ⟨⟨a0,K,M⟩,⟨o,a4,a5⟩,_⟩:=a.out w1 y;clear y;go_wp2_with fail;refine (cP _ _ _ _ _).mono ?_;rintro e w2 ⟨rfl,D⟩;have x:=aa (ab G1 D);obtain ⟨⟨c0,c1,c2⟩,⟨c3,c4,c5⟩,_⟩:=a.out w2 x;clear D;go_wp2_with fail;refine (ie _ _ f h s t _ (Y.keep0 (ab A x)) (NY.keep0 (ab A x)) O).mono ?_;rintro e E ⟨v3,rfl,F,R,p3⟩;obtain ⟨xo,xl,xc,rfl,_,_,_⟩:=F.shape;have P1:=aa F;have G3:=aa (ab x R);clear F R p3;go_wp2_with fail;have B:E.grownBy (E.alloc (Obj.cells #[Value.int IntKind.u32 1] 115)) none:=ae (ag _ _) _;have GA:=aa (ab G3 B);have P2:=aa (P1.keep0 B);clear B;refine (lx _ _ _ (f*h) 1 (s+t+1) _ (P2.mono O) ((Ae E).mono O) zD (.inr (Nat.gcd_one_right _))).mono ?_;rintro e S ⟨v6,rfl,f1,T⟩;obtain ⟨fo,fl,fc,G,H,I,rfl⟩:=f1.shape;have F1:=aa f1;have C:=aa (ab GA T);clear f1 T;obtain ⟨⟨g0,y,D⟩,⟨g3,g4,g5⟩,⟨U,V,X⟩,z⟩:=a.out S C;have he:=z 0;have hf:=z 1;have hj:=z 2;clear z;go_wp2;refine bodyPost_ret (v:=.agg #[.bool (bg (b != c) (f*h) 1).1,.slice fo fl fc,.slice G H I]) (by first | (simp [results,Tryz.results38,go_sem,U,V,X];done) | (simp [results,Tryz.results38,go_sem,U,V,X];rfl)) rfl ?_;exact ⟨_,rfl,F1.other (NW S C) bH,ah (ah (ah (ab A C) _ _ (by simp;omega)) _ _ (by simp;omega)) _ _ (by simp;omega)⟩
theorem oq (y D p Q:Option Addr) (z A E F G H R S:Nat) (s t:Bool) (N T q P U r:Nat) (w:World) (hx:FV w (.agg #[.bool s,.slice y z A,.slice p G H]) s N T q) (hy:FV w (.agg #[.bool t,.slice D E F,.slice Q R S]) t P U r) (hl:q+r<=7000000000000)
  (hwh:∀ wx:World,(Calls Tryz.prog 68 #[.agg #[.bool s,.slice y z A,.slice p G H]] wx fun e w'=>e=.returned (.bool false)/\wx.grownBy w' none)∨((Calls Tryz.prog 68 #[.agg #[.bool s,.slice y z A,.slice p G H]] wx fun e w'=>e=.returned (.bool true)/\wx.grownBy w' none)/\∀ wx:World,Calls Tryz.prog 68 #[.agg #[.bool t,.slice D E F,.slice Q R S]] wx fun e w'=>e=.returned (.bool false)/\wx.grownBy w' none)) :
  Calls Tryz.prog 38 #[.agg #[.bool s,.slice y z A,.slice p G H],.agg #[.bool t,.slice D E F,.slice Q R S]] w fun e w'=>gN w (bg (s != t) (N*P) (T*U)).1 (bg (s != t) (N*P) (T*U)).2.1 (bg (s != t) (N*P) (T*U)).2.2 (q+r+1) e w':=by
 have HX:=aa hx;have HY:=aa hy;obtain ⟨I,V⟩:=hx.down_le;obtain ⟨J,X⟩:=hy.down_le;have hw:=hx.cop;have hz:=hy.cop;have NX:Hid (aT w (.slice y z A) N q):=by
  obtain ⟨up,hH,e,h1,_⟩:=hx;simp only [Value.agg.injEq,Array.mk.injEq,List.cons.injEq,and_true,true_and] at e;rw [e.1];exact h1
 have NY:Hid (aT w (.slice D E F) P r):=by
  obtain ⟨up,hH,e,h1,_⟩:=hy;simp only [Value.agg.injEq,Array.mk.injEq,List.cons.injEq,and_true,true_and] at e;rw [e.1];exact h1
 clear hx hy;obtain ⟨G1,K⟩:=eX (Nat.gcd N U);obtain ⟨G2,M⟩:=eX (Nat.gcd P T);have hA:0<G1:=by rw [K];exact Nat.gcd_pos_of_pos_right _ J
 have hB:0<G2:=by rw [M];exact Nat.gcd_pos_of_pos_right _ I
 obtain ⟨X1,Y⟩:=eX (N / G1);obtain ⟨X2,he⟩:=eX (P / G2);obtain ⟨Y1,B⟩:=eX (T / G2);obtain ⟨Y2,C⟩:=eX (U / G1);have qf:X1<4294967296^q:=by rw [Y];exact Nat.lt_of_le_of_lt (Nat.div_le_self _ _) NX.lt
 have ql:X2<4294967296^r:=by rw [he];exact Nat.lt_of_le_of_lt (Nat.div_le_self _ _) NY.lt
 have qo:Y1<4294967296^(q+1):=by rw [B];exact nO (Nat.le_trans (Nat.div_le_self _ _) V)
 have qq:Y2<4294967296^(r+1):=by rw [C];exact nO (Nat.le_trans (Nat.div_le_self _ _) X)
 have qs:Y1*Y2<4294967296^(q+r+1):=by
  refine nO ?_;rw [Nat.pow_add,B,C];exact Nat.mul_le_mul (Nat.le_trans (Nat.div_le_self _ _) V) (Nat.le_trans (Nat.div_le_self _ _) X)
 have ya:0<Y1*Y2:=by
  rw [B,C,K,M];exact Nat.mul_pos (Nat.div_pos (Nat.gcd_le_right _ I) (Nat.gcd_pos_of_pos_right _ I)) (Nat.div_pos (Nat.gcd_le_right _ J) (Nat.gcd_pos_of_pos_right _ J))
 have hC:Hid (X1*X2=0∨Nat.gcd (X1*X2) (Y1*Y2)=1):=.inr (by rw [Y,he,B,C,K,M];exact AY hw hz I J);have HQ:Hid (bg (s != t) (X1*X2) (Y1*Y2)=bg (s != t) (N*P) (T*U)):=by show _=_;rw [Y,he,B,C,K,M];exact AZ _ I J
 have yb:=aa Y;have yc:=aa he;have yl:=aa B;have yn:=aa C;have yo:=aa K;have yv:=aa M;rw [<- HQ];clear HQ Y he B C K M hw hz V X;obtain ⟨W,hW⟩:=eX (((w.alloc (Obj.cells #[.bool s,.slice y z A,.slice p G H] 85)).alloc (Obj.cells #[.bool t,.slice D E F,.slice Q R S] 85)).alloc (Obj.cells #[.bool false,.slice none 0 0,.slice none 0 0] 85));have GW:Hid (w.grownBy W none):=by rw [hW];exact ae (ae (ae (ag _ _) _) _) _
 have NW:Hid (∀ wx,W.grownBy wx none->bM wx (w.heap.size+1+1)):=by
  intro wx hg;rw [hW] at hg;have:=bu hg;simpa using this
 have b:Hid (∀ wx,W.grownBy wx none->(wx.cell? ⟨w.heap.size,0,none⟩=some (.bool s)/\wx.cell? ⟨w.heap.size,1,none⟩=some (.slice y z A)/\wx.cell? ⟨w.heap.size,2,none⟩=some (.slice p G H))/\(wx.cell? ⟨w.heap.size+1,0,none⟩=some (.bool t)/\wx.cell? ⟨w.heap.size+1,1,none⟩=some (.slice D E F)/\wx.cell? ⟨w.heap.size+1,2,none⟩=some (.slice Q R S))/\(wx.cell? ⟨w.heap.size+1+1,0,none⟩=some (.bool false)/\wx.cell? ⟨w.heap.size+1+1,1,none⟩=some (.slice none 0 0)/\wx.cell? ⟨w.heap.size+1+1,2,none⟩=some (.slice none 0 0))/\∀ i,wx.frozen? ⟨w.heap.size+1+1,i,none⟩=false):=by
  intro wx hg;rw [hW] at hg;have a1:=aJ (ab (ae (ae (ag _ none) _) _) hg);have a2:=aJ (w:=w.alloc (Obj.cells #[.bool s,.slice y z A,.slice p G H] 85)) (ab (ae (ag _ none) _) hg);have a3:=aV hg;have e3:((w.alloc (Obj.cells #[.bool s,.slice y z A,.slice p G H] 85)).alloc (Obj.cells #[.bool t,.slice D E F,.slice Q R S] 85)).heap.size=w.heap.size+1+1:=Z
  rw [e3] at a3;refine ⟨a1,by simpa using a2,?_,?_⟩
  ·exact ⟨a3.1,a3.2.1,a3.2.2.1⟩
  ·exact a3.2.2.2
 obtain ⟨⟨s0,s1,s2⟩,⟨t0,t1,t2⟩,⟨r0,r1,r2⟩,rf⟩:=b.out W (ag _ _);clear rf;have mt:¬ w.heap.size+1+1=w.heap.size:=O
 have Ha:¬ w.heap.size=w.heap.size+1+1:=O
 have Hb:¬ w.heap.size+1+1=w.heap.size+1:=O
 have jc:=aa hwh;clear hwh;go_enter Tryz.func38,Tryz.ntmps38
 go_upto_region 2 with fail;rw [<- hW];clear hW;go_cut [19] (fun s19 wx=>Hid (s19=.bool false/\W.grownBy wx none))
 case first =>
  go_wp2_with fail;rcases jc.out W with h | ⟨h,h2⟩
  ·refine h.mono ?_;rintro e w1 ⟨rfl,g1⟩;go_wp2_with fail;go_meet
   exact ⟨rfl,g1⟩
  ·refine h.mono ?_;rintro e w1 ⟨rfl,g1⟩;obtain ⟨⟨a0,a1,a2⟩,⟨a3,a4,a5⟩,_⟩:=b.out w1 g1;go_wp2_with fail;refine (h2 _).mono ?_;rintro e w2 ⟨rfl,g2⟩;go_wp2_with fail;go_meet
   exact ⟨rfl,ab g1 g2⟩
 case rest =>
  obtain ⟨rfl,GG⟩:=hcut.out;clear hcut s0 s1 s2 t0 t1 t2 r0 r1 r2;obtain ⟨⟨s0,s1,s2⟩,⟨s3,s4,s5⟩,_⟩:=b.out wc GG;go_wp2;go_cut [6,7] (fun s6 s7 wx=>Hid (W.grownBy wx none/\(∃ o l c,s6=.slice o l c)/\(∃ o l c,s7=.slice o l c)/\aT wx s6 G1 (q+r+1)/\aT wx s7 G2 (q+r+1)))
  case first =>
   go_region_held3 (fun w'=>w'.cell? ⟨w.heap.size,0,none⟩=some (.bool s)/\w'.cell? ⟨w.heap.size,1,none⟩=some (.slice y z A)/\w'.cell? ⟨w.heap.size,2,none⟩=some (.slice p G H)/\w'.cell? ⟨w.heap.size+1,0,none⟩=some (.bool t)/\w'.cell? ⟨w.heap.size+1,1,none⟩=some (.slice D E F)/\w'.cell? ⟨w.heap.size+1,2,none⟩=some (.slice Q R S)) (go_keep)
    (first | (go_at_call_of 72 (Value.agg #[.bool t,.slice D E F,.slice Q R S]);refine (iq _ t P U r _ (HY.keep0 (ab GW zF))).mono ?_;rintro e wa ⟨va,rfl,pa,ga⟩;obtain ⟨Hi,Hj,Hk,rfl,_,_,_⟩:=pa.shape;have a:=ab zQ ga;have GG:W.grownBy wa none:=ab zF ga;(try have pb:=pb.keep0 a);(try have pc:=pc.keep0 a);(try have pd:=pd.keep0 a);clear a;obtain ⟨⟨hI,hK,hL⟩,⟨hM,hN,hQ⟩,⟨hR,hS,hT⟩,f⟩:=b.out wa GG;have hj:=f 0;have hk:=f 1;have hm:=f 2;clear f) | (go_at_call_of 71 (Value.slice y z A);refine (oW _ _ N U (q+r+1) _ ((NX.keep0 (ab GW zF)).mono O) ((pa.keep0 zQ).mono O) (.inr J) O).mono ?_;rintro e wb ⟨vb,rfl,pb,gb⟩;rw [<- yo] at pb;obtain ⟨Hl,Hm,Hn,rfl,_,_,_⟩:=pb.shape;have a:=ab zQ gb;have GG:W.grownBy wb none:=ab zF gb;(try have pa:=pa.keep0 a);(try have pc:=pc.keep0 a);(try have pd:=pd.keep0 a);clear a;obtain ⟨⟨hX,hY,ka⟩,⟨kb,kc,ke⟩,⟨kf,kg,kk⟩,j⟩:=b.out wb GG;have hp:=j 0;have hq:=j 1;have hr:=j 2;clear j) | (go_at_call_of 72 (Value.agg #[.bool s,.slice y z A,.slice p G H]);refine (iq _ s N T q _ (HX.keep0 (ab GW zF))).mono ?_;rintro e x ⟨kl,rfl,pc,gc⟩;obtain ⟨Ho,Hp,Hq,rfl,_,_,_⟩:=pc.shape;have a:=ab zQ gc;have GG:W.grownBy x none:=ab zF gc;(try have pa:=pa.keep0 a);(try have pb:=pb.keep0 a);(try have pd:=pd.keep0 a);clear a;obtain ⟨⟨kn,ko,ks⟩,⟨ku,kw,ky⟩,⟨kz,kF,kH⟩,m⟩:=b.out x GG;have hs:=m 0;have hu:=m 1;have hv:=m 2;clear m) | (go_at_call_of 71 (Value.slice D E F);refine (oW _ _ P T (q+r+1) _ ((NY.keep0 (ab GW zF)).mono O) ((pc.keep0 zQ).mono O) (.inr I) O).mono ?_;rintro e wd ⟨vd,rfl,pd,gd⟩;rw [<- yv] at pd;obtain ⟨Hr,Hs,Ht,rfl,_,_,_⟩:=pd.shape;have a:=ab zQ gd;have GG:W.grownBy wd none:=ab zF gd;(try have pa:=pa.keep0 a);(try have pb:=pb.keep0 a);(try have pc:=pc.keep0 a);clear a;obtain ⟨⟨jl,jo,jp⟩,⟨js,jv,mc⟩,⟨md,ml,mm⟩,u⟩:=b.out wd GG;have hD:=u 0;have hE:=u 1;have hF:=u 2;clear u))
   all_goals (go_wp2_with fail;go_meet;exact ⟨zF,⟨_,_,_,rfl⟩,⟨_,_,_,rfl⟩,pb.keep0 zQ,pd.keep0 zQ⟩)
  case rest =>
   clear GG s0 s1 s2 s3 s4 s5;obtain ⟨GG,⟨go,gl,gc,rfl⟩,⟨ho,kN,hc,rfl⟩,S6,S7⟩:=hcut.out;clear hcut;obtain ⟨⟨s0,s1,s2⟩,⟨s3,s4,s5⟩,_⟩:=b.out wc GG;go_wp2;go_cut [8] (fun s8 wx=>Hid (W.grownBy wx none/\(∃ o l c,s8=.slice o l c)/\aT wx s8 (X1*X2) (q+r)/\aT wx (.slice go gl gc) G1 (q+r+1)/\aT wx (.slice ho kN hc) G2 (q+r+1)))
   case first =>
    go_region_held3 (fun w'=>w'.cell? ⟨w.heap.size,0,none⟩=some (.bool s)/\w'.cell? ⟨w.heap.size,1,none⟩=some (.slice y z A)/\w'.cell? ⟨w.heap.size,2,none⟩=some (.slice p G H)/\w'.cell? ⟨w.heap.size+1,0,none⟩=some (.bool t)/\w'.cell? ⟨w.heap.size+1,1,none⟩=some (.slice D E F)/\w'.cell? ⟨w.heap.size+1,2,none⟩=some (.slice Q R S)) (go_keep)
     (first | (go_at_call_of 73 (Value.slice y z A);refine (fW _ _ N G1 (q+r+1) _ ((NX.keep0 (ab GW zF)).mono O) (S6.keep0 zQ) hA O).mono ?_;rintro e wa ⟨va,rfl,qa,ga⟩;rw [<- yb] at qa;obtain ⟨Hu,Hv,Hw,rfl,_,_,_⟩:=qa.shape;have a:=ab zQ ga;have GG:W.grownBy wa none:=ab zF ga;(try have qb:=qb.keep0 a);(try have qc:=qc.keep0 a);(try have S6:=S6.keep0 a);(try have S7:=S7.keep0 a);clear a;obtain ⟨⟨hI,hK,hL⟩,⟨hM,hN,hQ⟩,⟨hR,hS,hT⟩,f⟩:=b.out wa GG;have hj:=f 0;have hk:=f 1;have hm:=f 2;clear f) | (go_at_call_of 73 (Value.slice D E F);refine (fW _ _ P G2 (q+r+1) _ ((NY.keep0 (ab GW zF)).mono O) (S7.keep0 zQ) hB O).mono ?_;rintro e wb ⟨vb,rfl,qb,gb⟩;rw [<- yc] at qb;obtain ⟨Hx,Hy,Hz,rfl,_,_,_⟩:=qb.shape;have a:=ab zQ gb;have GG:W.grownBy wb none:=ab zF gb;(try have qa:=qa.keep0 a);(try have qc:=qc.keep0 a);(try have S6:=S6.keep0 a);(try have S7:=S7.keep0 a);clear a;obtain ⟨⟨hX,hY,ka⟩,⟨kb,kc,ke⟩,⟨kf,kg,kk⟩,j⟩:=b.out wb GG;have hp:=j 0;have hq:=j 1;have hr:=j 2;clear j) | (go_at_call 70;refine (ie _ _ X1 X2 q r _ ((qa.keep0 zQ).tight qf) ((qb.keep0 zQ).tight ql) O).mono ?_;rintro e x ⟨kl,rfl,qc,gc,_⟩;obtain ⟨HA,HB,HC,rfl,_,_,_⟩:=qc.shape;have a:=ab zQ gc;have GG:W.grownBy x none:=ab zF gc;(try have qa:=qa.keep0 a);(try have qb:=qb.keep0 a);(try have S6:=S6.keep0 a);(try have S7:=S7.keep0 a);clear a;obtain ⟨⟨kn,ko,ks⟩,⟨ku,kw,ky⟩,⟨kz,kF,kH⟩,m⟩:=b.out x GG;have hs:=m 0;have hu:=m 1;have hv:=m 2;clear m))
    all_goals (go_wp2_with fail;go_meet;exact ⟨zF,⟨_,_,_,rfl⟩,qc.keep0 zQ,S6.keep0 zQ,S7.keep0 zQ⟩)
   case rest =>
    clear GG s0 s1 s2 s3 s4 s5 S6 S7;obtain ⟨GG,⟨io,il,ic,rfl⟩,S8,S6,S7⟩:=hcut.out;clear hcut;obtain ⟨⟨s0,s1,s2⟩,⟨s3,s4,s5⟩,_⟩:=b.out wc GG;go_wp2;go_region_held3 (fun w'=>w'.cell? ⟨w.heap.size,0,none⟩=some (.bool s)/\w'.cell? ⟨w.heap.size,1,none⟩=some (.slice y z A)/\w'.cell? ⟨w.heap.size,2,none⟩=some (.slice p G H)/\w'.cell? ⟨w.heap.size+1,0,none⟩=some (.bool t)/\w'.cell? ⟨w.heap.size+1,1,none⟩=some (.slice D E F)/\w'.cell? ⟨w.heap.size+1,2,none⟩=some (.slice Q R S)) (go_keep)
     (first | (go_at_call_of 72 (Value.agg #[.bool s,.slice y z A,.slice p G H]);refine (iq _ s N T q _ (HX.keep0 (ab GW zF))).mono ?_;rintro e wa ⟨va,rfl,ra,ga⟩;obtain ⟨HD,HE,HF,rfl,_,_,_⟩:=ra.shape;have a:=ab zQ ga;have GG:W.grownBy wa none:=ab zF ga;(try have rb:=rb.keep0 a);(try have rc:=rc.keep0 a);(try have rd:=rd.keep0 a);(try have re:=re.keep0 a);(try have S6:=S6.keep0 a);(try have S7:=S7.keep0 a);(try have S8:=S8.keep0 a);clear a;obtain ⟨⟨hI,hK,hL⟩,⟨hM,hN,hQ⟩,⟨hR,hS,hT⟩,f⟩:=b.out wa GG;have hj:=f 0;have hk:=f 1;have hm:=f 2;clear f) | (go_at_call_of 73 (Value.slice ho kN hc);refine (fW _ _ T G2 (q+r+1) _ ((ra.keep0 zQ).mono O) (S7.keep0 zQ) hB O).mono ?_;rintro e wb ⟨vb,rfl,rb,gb⟩;rw [<- yl] at rb;obtain ⟨HG,HH,HI,rfl,_,_,_⟩:=rb.shape;have a:=ab zQ gb;have GG:W.grownBy wb none:=ab zF gb;(try have ra:=ra.keep0 a);(try have rc:=rc.keep0 a);(try have rd:=rd.keep0 a);(try have re:=re.keep0 a);(try have S6:=S6.keep0 a);(try have S7:=S7.keep0 a);(try have S8:=S8.keep0 a);clear a;obtain ⟨⟨hX,hY,ka⟩,⟨kb,kc,ke⟩,⟨kf,kg,kk⟩,j⟩:=b.out wb GG;have hp:=j 0;have hq:=j 1;have hr:=j 2;clear j) | (go_at_call_of 72 (Value.agg #[.bool t,.slice D E F,.slice Q R S]);refine (iq _ t P U r _ (HY.keep0 (ab GW zF))).mono ?_;rintro e x ⟨kl,rfl,rc,kS⟩;obtain ⟨HJ,HK,HL,rfl,_,_,_⟩:=rc.shape;have a:=ab zQ kS;have GG:W.grownBy x none:=ab zF kS;(try have ra:=ra.keep0 a);(try have rb:=rb.keep0 a);(try have rd:=rd.keep0 a);(try have re:=re.keep0 a);(try have S6:=S6.keep0 a);(try have S7:=S7.keep0 a);(try have S8:=S8.keep0 a);clear a;obtain ⟨⟨kn,ko,ks⟩,⟨ku,kw,ky⟩,⟨kz,kF,kH⟩,m⟩:=b.out x GG;have hs:=m 0;have hu:=m 1;have hv:=m 2;clear m) | (go_at_call_of 73 (Value.slice go gl gc);refine (fW _ _ U G1 (q+r+1) _ ((rc.keep0 zQ).mono O) (S6.keep0 zQ) hA O).mono ?_;rintro e wd ⟨vd,rfl,rd,gd⟩;rw [<- yn] at rd;obtain ⟨HM,HN,HP,rfl,_,_,_⟩:=rd.shape;have a:=ab zQ gd;have GG:W.grownBy wd none:=ab zF gd;(try have ra:=ra.keep0 a);(try have rb:=rb.keep0 a);(try have rc:=rc.keep0 a);(try have re:=re.keep0 a);(try have S6:=S6.keep0 a);(try have S7:=S7.keep0 a);(try have S8:=S8.keep0 a);clear a;obtain ⟨⟨jl,jo,jp⟩,⟨js,jv,mc⟩,⟨md,ml,mm⟩,u⟩:=b.out wd GG;have hD:=u 0;have hE:=u 1;have hF:=u 2;clear u) | (go_at_call 70;refine (ie _ _ Y1 Y2 (q+1) (r+1) _ ((rb.keep0 zQ).tight qo) ((rd.keep0 zQ).tight qq) O).mono ?_;rintro e we ⟨ve,rfl,re,ge,_⟩;obtain ⟨HR,rel,HS,rfl,_,_,_⟩:=re.shape;have a:=ab zQ ge;have GG:W.grownBy we none:=ab zF ge;(try have ra:=ra.keep0 a);(try have rb:=rb.keep0 a);(try have rc:=rc.keep0 a);(try have rd:=rd.keep0 a);(try have S6:=S6.keep0 a);(try have S7:=S7.keep0 a);(try have S8:=S8.keep0 a);clear a;obtain ⟨⟨HT,HU,HV⟩,⟨HW,Ka,Kb⟩,⟨Kc,Kd,Ke⟩,hf⟩:=b.out we GG;have Hc:=hf 0;have Hd:=hf 1;have He:=hf 2;clear hf) | (go_at_call 69;refine (lx _ _ _ (X1*X2) (Y1*Y2) (q+r+1) _ ((S8.keep0 zQ).mono O) ((re.keep0 zQ).tight qs) ya hC).mono ?_;rintro e wf ⟨v6,rfl,f1,f2⟩;obtain ⟨fo,fl,fc,mo,mp,ms,rfl⟩:=f1.shape;have GG:W.grownBy wf none:=ab zF f2;obtain ⟨⟨g0,g1,g2⟩,⟨g3,g4,g5⟩,⟨g6,g7,g8⟩,gf⟩:=b.out wf GG;have Hf:=gf 0;have Hg:=gf 1;have Hh:=gf 2;clear gf))
    all_goals
     have F1:=aa f1;have hG:=aa GG;clear f1 f2;go_wp2;refine bodyPost_ret (v:=.agg #[.bool (bg (s != t) (X1*X2) (Y1*Y2)).1,.slice fo fl fc,.slice mo mp ms]) (by first | (simp [results,Tryz.results38,go_sem,g6,g7,g8];done) | (simp [results,Tryz.results38,go_sem,g6,g7,g8];rfl)) rfl ?_;exact ⟨_,rfl,F1.other (NW wf hG) bH,ah (ah (ah (ab GW hG) _ _ (by simp;omega)) _ _ (by simp;omega)) _ _ (by simp;omega)⟩
theorem rO (x y:Value) (a b:Bool) (c m i f j l:Nat) (w:World) (Q:FV w x a c m i) (hy:FV w y b f j l) (p:i+l<=7000000000000) :
  Calls Tryz.prog 38 #[x,y] w fun e w'=>gN w (bg (a != b) (c*f) (m*j)).1 (bg (a != b) (c*f) (m*j)).2.1 (bg (a != b) (c*f) (m*j)).2.2 (i+l+1) e w':=by
 have R:=Q;have q:=hy;obtain ⟨up,S,rfl,T,t,h3,h4⟩:=Q;obtain ⟨U,u,rfl,k1,z,k3,k4⟩:=hy;obtain ⟨A,B,C,rfl,_⟩:=T.shape;obtain ⟨D,E,F,rfl,_⟩:=k1.shape;rcases t with ⟨rfl,rfl⟩ | ⟨t,hd⟩
 ·rcases z with ⟨rfl,rfl⟩ | ⟨z,kd⟩
  ·exact tq A D B C E F a b c i f l w T k1 p
  ·obtain ⟨G,o,H,rfl,I,J,K⟩:=z.shape;have r:0<o:=by
    rcases zP o with h | h
    ·have:=I.1 h;omega
    ·exact h
   exact oq A D none G B C E F 0 0 o H a b c 1 i f j l w R q p (fun P=>.inr ⟨cP _ _ _ _ P,fun wy=>fO _ _ _ _ _ _ _ wy r J K⟩)
 ·obtain ⟨M,N,V,rfl,I,J,K⟩:=t.shape;have s:0<N:=by
   rcases zP N with h | h
   ·have:=I.1 h;omega
   ·exact h
  obtain ⟨X,Y,he,G,o,H,e⟩:=q.shape;simp only [Value.agg.injEq,Array.mk.injEq,List.cons.injEq,and_true,true_and] at e;obtain ⟨_,rfl⟩:=e;exact oq A D M G B C E F N V o H a b c m i f j l w R q p (fun P=>.inl (fO _ _ _ _ _ _ _ P s J K))
def FQ (w:World) (v:Value) (q:Rat) (L:Nat):Prop:=FV w v (rB q) (rN q) q.den L
def Cm (w:World) (q:Rat) (L:Nat) (e:Ending) (w':World):Prop:=∃ v,e=.returned v/\FQ w' v q L/\w.grownBy w' none
theorem FQ.keep0 {q:Rat} (h:FQ w v q L) (hg:w.grownBy w' none):FQ w' v q L:=FV.keep0 h hg
theorem FQ.mono {q:Rat} {L':Nat} (h:FQ w v q L) (c:L<=L'):FQ w v q L':=by
 obtain ⟨up,a,e,f,b,i,j⟩:=h;refine ⟨up,a,e,f.mono c,?_,i,j⟩;rcases b with b | ⟨b,l⟩
 ·exact .inl b
 ·exact .inr ⟨b.mono c,l⟩
theorem FQ.shape {q:Rat} (h:FQ w v q L):∃ uo ul uc do_ dl dc,v=.agg #[.bool (rB q),.slice uo ul uc,.slice do_ dl dc]:=FV.shape h
theorem zU (b:Bool) (n d:Nat):bg b n d=(rB (mkRat (fY b n) d),rN (mkRat (fY b n) d),(mkRat (fY b n) d).den):=by
 unfold bg;by_cases h:n=0∨d=0
 ·rw [if_pos h,mk_zero b n d h];rfl
 ·rw [if_neg h];obtain ⟨a,c,f⟩:=vI b n d (fun e=>h (.inl e)) (fun e=>h (.inr e));unfold rB rN;rw [a,c,f]
theorem gN.q {b:Bool} {q:Rat} (a:mkRat (fY b n) d=q) {e:Ending} (h:gN w (bg b n d).1 (bg b n d).2.1 (bg b n d).2.2 L e w'):Cm w q L e w':=by
 rw [zU,a] at h;exact h
theorem fj (x y:Value) (p q:Rat) (a b:Nat) (w:World) (c:FQ w x p a) (hy:FQ w y q b) (f:a+b<=7000000000000) :
  Calls Tryz.prog 38 #[x,y] w fun e w'=>Cm w (p*q) (a+b+1) e w':=by
 refine (rO x y _ _ _ _ a _ _ b w c hy f).mono ?_;intro e w' h;exact gN.q (q_mul p q) h
def dh (l:List UInt8):Rat :=
 if cC (Lib.cut (Lib.trimPrefix l [45]) [47]).1 && cC (fM (Lib.trimPrefix l [45])) then
  mkRat (fY (Lib.hasPrefix l [45]) (bj (Lib.cut (Lib.trimPrefix l [45]) [47]).1)) (bj (fM (Lib.trimPrefix l [45])))
 else 0
theorem ofQ_R (l:List UInt8):hJ l=(rB (dh l),rN (dh l),(dh l).den):=by
 unfold hJ dh;split
 ·exact zU _ _ _
 ·rfl
theorem DS (s:ByteArray) (m:Int) (w:World) (b:s.size<=600000000) (a:w.cell? ⟨2,0,none⟩=some (.int .i64 m)) :
  Calls Tryz.prog 127 #[.string s] w fun e w'=>Cm w (dh s.data.toList) (s.size+1) e w':=by
 refine (vO s m w b a).mono ?_;intro e w' h;unfold OfE at h;rw [ofQ_R] at h;exact h
open Go.RowKit Go.Sort
def fh (w:World):Prop:=Lib.TabIs Tryz.prog w "internal/strconv.uint64pow10" .u64 Lib.pow10Tab
theorem fh.keep0 (h:fh w) (hg:w.grownBy w' none):fh w':=by
 unfold fh Lib.TabIs World.var? at *;cases hn:Tryz.prog.globalNamed "internal/strconv.uint64pow10" with
 | none=>simp [hn] at h
 | some g =>
  simp only [hn,Option.bind_some] at h ⊢;have hlt:g<w.heap.size:=by
   rcases Nat.lt_or_ge g w.heap.size with a | a
   ·exact a
   ·rw [Array.getElem?_eq_none a] at h;simp at h
  rw [hg.block g hlt Z];exact h
theorem gr_grow (k:Nat) (os:Array Obj):w.grownBy (grow (w.drewN k) os) none:=by
 refine ⟨rfl,rfl,rfl,?_,?_⟩
 ·simp [grow]
 ·intro b hb _;show (w.heap++os)[b]? = w.heap[b]?
  rw [Array.getElem?_append_left hb]
theorem vh (w:World) (T:TypeId) (nd:Nat) (e:nd<=24):Holds (fun (b:UInt8)=>Value.int .u8 (b.toNat:Int)) (w.alloc (.cells Lib.zeros24 T)) w.heap.size 0 (Array.replicate nd (0:UInt8)):=fun j a=>by
 have c:j<nd:=by simpa using a
 refine ⟨?_,World.frozen?_alloc_new _ _ _ _⟩;rw [World.cell?_alloc_new,Lib.zeros24_at _ O,getElem!_pos _ j a];simp
theorem C6 (w:World) (o:Obj) (c:Array UInt8) (k:Nat):∃ os,(putRow (fun (b:UInt8)=>Value.int .u8 (b.toNat:Int)) (w.alloc o) w.heap.size 0 c).drewN k=grow (w.drewN k) os:=by
 rw [alloc_eq_grow];obtain ⟨a,_,e⟩:=putRow_grow_new (fun (b:UInt8)=>Value.int .u8 (b.toNat:Int)) w #[o] w.heap.size 0 c zL;exact ⟨a,by rw [e];rfl⟩
theorem qh (u:Nat) (w:World) (a:u<18446744073709551616) (i:fh w) :
  Calls Tryz.prog 159 #[.int .u64 (u:Nat),.int .i64 10] w fun e w'=>e=.returned (.string ⟨(Lib.decDigits u).toArray⟩)/\w.grownBy w' none:=by
 by_cases x:u<100
 ·go_enter Tryz.func159,Tryz.ntmps159
  go_wp2_with fail;refine (Tryz.internal_strconv_small u x _).mono ?_;rintro e w' ⟨rfl,rfl⟩;go_wp2;go_ret;exact ⟨rfl,ag _ _⟩
 ·have l:1<=u:=O
  have p:Lib.nDigits u<=20:=by have:=Lib.numDigits_eq u l a;split at this<;>omega
  have m:Tryz.prog.arrayLen 225=24:=zK
  have y:∀ W,(Instr.sliceAt 225 (.pointer (some ⟨w.heap.size,0,none⟩)) none (some (.int .i64 (Lib.nDigits u:Int))) none).run Tryz.prog W=.ok (.slice (some ⟨w.heap.size,0,none⟩) (Lib.nDigits u) 24) W:=fun W=>by
   rw [run_sliceAt_array_h W 225 ⟨w.heap.size,0,none⟩ (by simp [Program.arrayLen,Program.elem,Tryz.underlying225]) .i64 (Lib.nDigits u:Int) O (by rw [m];omega)];go_simp
  have f:=vh w 225 (Lib.nDigits u) O;have c:=Tryz.internal_strconv_formatBase10 w.heap.size 0 24 u (Array.replicate (Lib.nDigits u) 0) (w.alloc (.cells Lib.zeros24 225)) f (by rw [Array.size_replicate];exact Lib.lt_pow_nDigits u) a (by rw [Array.size_replicate];omega);rw [Array.size_replicate] at c;have q:=Lib.hid f;have r:=Lib.hid c;clear f m c;go_enter Tryz.func159,Tryz.ntmps159
  go_wp2_with fail;refine (Tryz.internal_strconv_numDigits u l a _ (Lib.tabIs_alloc i _)).mono ?_;rintro e w' ⟨rfl,rfl⟩;go_wp2_with fail;refine r.mono ?_;rintro e w' ⟨rfl,k,B,o,rfl,s⟩;have z:(convert 164 9 (.slice (some ⟨w.heap.size,0,none⟩) (Lib.nDigits u) 24)).run Tryz.prog ((putRow (fun (b:UInt8)=>Value.int .u8 (b.toNat:Int)) (w.alloc (.cells Lib.zeros24 225)) w.heap.size 0 o).drewN k)=.ok (.string ⟨(Lib.decDigits u).toArray⟩) ((putRow (fun (b:UInt8)=>Value.int .u8 (b.toNat:Int)) (w.alloc (.cells Lib.zeros24 225)) w.heap.size 0 o).drewN k):=by
   have h:=run_convert_bytes_back (P:=Tryz.prog) ((putRow (fun (b:UInt8)=>Value.int .u8 (b.toNat:Int)) (w.alloc (.cells Lib.zeros24 225)) w.heap.size 0 o).drewN k) 164 9 5 ⟨w.heap.size,0,none⟩ 24 (Lib.decDigits u) Tryz.underlying164 Tryz.underlying5 Tryz.underlying9 (fun j t=>by
    rw [Lib.row_is_numeral s j t,Lib.add_plain,World.cell?_drewN];exact cell?_putRow (fun (b:UInt8)=>Value.int .u8 (b.toNat:Int)) _ w.heap.size 0 _ o q (by rw [s.size,Array.size_replicate]) j (by rw [s.size];rw [Lib.decDigits_length] at t;exact t))
   rw [Lib.decDigits_length] at h;exact h
  go_wp2;go_ret;obtain ⟨os,A⟩:=C6 w (.cells Lib.zeros24 225) o k;rw [A];exact ⟨rfl,gr_grow _ _⟩
theorem rp (u:Nat) (w:World) (b:u<18446744073709551616) (a:fh w) :
  Calls Tryz.prog 119 #[.int .u64 (u:Nat),.int .i64 10] w fun e w'=>e=.returned (.string ⟨(Lib.decDigits u).toArray⟩)/\w.grownBy w' none:=by
 have H:=aa a;clear a;go_enter Tryz.func119,Tryz.ntmps119
 go_wp2_with fail;refine (qh u _ b H).mono ?_;rintro e w' ⟨rfl,h⟩;have c:=aa h;clear h;go_wp2;go_ret;exact ⟨rfl,c⟩
end Go.Proofs.YtbfohfjobncehaaGreatDoor
