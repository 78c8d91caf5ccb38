/- Contracts that the proof leans on. -/
import Derived.Test.YthblidglcppakaaGreatDoorXMFb
import Derived.Deep.LoopGhost
import Derived.Deep.RegionHeld3
namespace Go.Proofs.YthblidglcppakaaGreatDoor
open Go.RowKit
set_option linter.unusedVariables false
set_option linter.unusedSimpArgs false
set_option maxHeartbeats 8000000
set_option maxRecDepth 10000
def zS (x y z u:Int):Int :=
 if u > (if z > (if y > x then y else x) then z else (if y > x then y else x)) then u else (if z > (if y > x then y else x) then z else (if y > x then y else x))
theorem CS {P:Program} (w:World) (ts:Array TypeId) (t:TypeId) (k:IntKind) (x y z u:Int):(Builtin.max_ ts t #[.int k x,.int k y,.int k z,.int k u]).run P w=.ok (.int k (zS x y z u)) w:=by
 simp [Builtin.max_,Builtin.max2,zS]
theorem max4_lt (x y z u B:Int):zS x y z u<B↔x<B/\y<B/\z<B/\u<B:=by
 unfold zS;repeat' split
 all_goals omega
theorem uJ (q c:Int) (h0:0<=q) (h1:q<1073741824) (c1:-1073741824<c) (c2:c<1073741824):-1152921504606846976<q*c/\q*c<1152921504606846976:=by
 have k1:q*c<=q*1073741823:=Int.mul_le_mul_of_nonneg_left (by omega) h0;have k2:q*(-1073741823)<=q*c:=Int.mul_le_mul_of_nonneg_left (by omega) h0;omega
def kR (w:World) (g:Nat) (a b c d:Int):Prop:=w.heap[g]? = some (.cells #[.int .i64 a,.int .i64 b,.int .i64 c,.int .i64 d] 207 (0,0))
theorem kR.cells {w:World} {g:Nat} {a b c d:Int} (h:kR w g a b c d):w.cell? ⟨g,0,none⟩=some (.int .i64 a)/\w.cell? ⟨g,1,none⟩=some (.int .i64 b)/\w.cell? ⟨g,2,none⟩=some (.int .i64 c)/\w.cell? ⟨g,3,none⟩=some (.int .i64 d)/\∀ i,w.frozen? ⟨g,i,none⟩=false:=by
 unfold kR at h;refine ⟨?_,?_,?_,?_,fun i=>?_⟩<;>simp [World.cell?,World.frozen?,h]
theorem kR.set {w:World} {g:Nat} {a b c d a' b' c' d':Int} (h:kR w g a b c d):kR ((((w.setCell ⟨g,0,none⟩ (.int .i64 a')).setCell ⟨g,1,none⟩ (.int .i64 b')).setCell ⟨g,2,none⟩ (.int .i64 c')).setCell ⟨g,3,none⟩ (.int .i64 d')) g a' b' c' d':=by
 unfold kR at h ⊢;rw [heap_setCell_same _ g 3 _ _ _ (heap_setCell_same _ g 2 _ _ _ (heap_setCell_same _ g 1 _ _ _ (heap_setCell_same w g 0 _ _ _ h)))];simp
theorem kR.other {w:World} {g k:Nat} {a b c d:Int} (h:kR w g a b c d) (hk:g≠k) (x y z u:Value):kR ((((w.setCell ⟨k,0,none⟩ x).setCell ⟨k,1,none⟩ y).setCell ⟨k,2,none⟩ z).setCell ⟨k,3,none⟩ u) g a b c d:=by
 unfold kR at h ⊢;rw [heap_setCell_other _ _ _ _ hk,heap_setCell_other _ _ _ _ hk,heap_setCell_other _ _ _ _ hk,heap_setCell_other _ _ _ _ hk];exact h
theorem ss {w wr:World} {k:Nat} (h:w.grownBy wr none) (hk:w.heap.size<=k) (x y z u:Value):w.grownBy ((((wr.setCell ⟨k,0,none⟩ x).setCell ⟨k,1,none⟩ y).setCell ⟨k,2,none⟩ z).setCell ⟨k,3,none⟩ u) none :=
 ai (ai (ai (ai h _ _ hk) _ _ hk) _ _ hk) _ _ hk
def oF (X Y a b c d:Int):Prop:=∃ P H N hi nx,iy X Y P H N a b c d hi nx
def StrR (w:World) (X Y P H N:Int) (hv nv:Value) (wr:World):Prop :=
 ∃ a b c d hi nx:Int,hv=.int .i64 hi/\nv=.int .i64 nx/\0<=nx/\iy X Y P H N a b c d hi nx/\kR wr w.heap.size 0 0 0 0/\kR wr (w.heap.size+1) a b c d/\w.grownBy wr none
def rV (w:World) (X Y:Int) (e:Ending) (w':World):Prop:=∃ a b c d:Int,e=.returned (.agg #[.int .i64 a,.int .i64 b,.int .i64 c,.int .i64 d])/\oF X Y a b c d/\w.grownBy w' none
theorem xx {X Y k:Nat} (hk:oE X k) (hle:Y<=X) (hY:4611686018427387904<=Y):63<=k/\X / 2^(k-62)<4611686018427387904/\Y / 2^(k-62)<=X / 2^(k-62):=by
 rcases hk with ⟨h,_⟩ | ⟨h1,h2,h3⟩
 ·omega
 ·have h63:63<=k:=by
   rcases Nat.lt_or_ge k 63 with h | h
   ·have:=Nat.pow_le_pow_right (n:=2) (by decide) (show k<=62 by omega);omega
   ·exact h
  refine ⟨h63,?_,Nat.div_le_div_right hle⟩;rw [Nat.div_lt_iff_lt_mul (Nat.two_pow_pos _)];have e:4611686018427387904*2^(k-62)=2^k:=by
   rw [show (4611686018427387904:Nat)=2^62 from by decide,<- Nat.pow_add,show 62+(k-62)=k from by omega]
  rw [e];exact h3
theorem mr (X low:Nat):(X:Int)=((X / 2^low:Nat):Int)*((2^low:Nat):Int)+((X % 2^low:Nat):Int)/\0<=((X % 2^low:Nat):Int)/\((X % 2^low:Nat):Int)<((2^low:Nat):Int):=by
 have h1:=Nat.div_add_mod X (2^low);have h2:=Nat.mod_lt X (Nat.two_pow_pos low);refine ⟨?_,by omega,by omega⟩;rw [<- Int.natCast_mul,<- Int.natCast_add];congr 1
 rw [Nat.mul_comm];exact h1.symm
theorem vi (va vb:Value) (xs ys:List Nat) (w:World) (ha:Ws w va xs) (hb:Ws w vb ys) (tx:Tr xs) (hle:ak ys<=ak xs) (hY:4611686018427387904<=ak ys) (hl:xs.length<=10000000000000) :
  Calls Tryz.prog 165 #[va,vb] w fun e w'=>rV w (ak xs:Nat) (ak ys:Nat) e w':=by
 obtain ⟨ao,ca,ea,hca,hca',_⟩:=ha.open;obtain ⟨bo,cb,eb,hcb,hcb',_⟩:=hb.open;have WA:=ab ha;have WB:=ab hb;have TX:=ab tx;have HLE:=ab hle;have HY:=ab hY;subst ea eb;clear ha hb tx hle hY hca hca' hcb hcb';go_enter Tryz.func165,Tryz.ntmps165
 go_wp2_with fail;have g1:w.grownBy (w.alloc (Obj.cells #[Value.int .i64 0,Value.int .i64 0,Value.int .i64 0,Value.int .i64 0] 207)) none:=ag (ae _ _) _;refine (lO _ (ak xs) xs.length _ ⟨xs,WA.out.keep0 g1,TX.out,rfl,Nat.le_refl _⟩ hl).mono ?_;rintro e w1 ⟨k,rfl,hk,hkb,rfl⟩;obtain ⟨k63,kH,kN⟩:=xx hk HLE.out HY.out;obtain ⟨low,hlow⟩:∃ low:Nat,(k:Int)-62=(low:Int):=⟨k-62,by omega⟩;have hlow2:k-62=low:=by omega
 rw [hlow2] at kH kN;have hlowb:low<=400000000000000:=by omega
 obtain ⟨Hn,hHn⟩:∃ Hn,Hn=ak xs / 2^low:=⟨_,rfl⟩;obtain ⟨Nn,hNn⟩:∃ Nn,Nn=ak ys / 2^low:=⟨_,rfl⟩;have hHb:Hn<4611686018427387904:=by rw [hHn];exact kH
 have hNH:Nn<=Hn:=by rw [hHn,hNn];exact kN
 obtain ⟨e1,e2,e3⟩:=mr (ak xs) low;obtain ⟨f1,f2,f3⟩:=mr (ak ys) low;have hP:(0:Int)<((2^low:Nat):Int):=by have:=Nat.two_pow_pos low;omega
 have hXY:((ak ys:Nat):Int)<=((ak xs:Nat):Int):=Int.ofNat_le.2 HLE.out;have hY0:(0:Int)<((ak ys:Nat):Int):=by have:=HY.out;omega
 rw [<- hHn] at e1;rw [<- hNn] at f1;obtain ⟨P,hPe⟩:∃ P:Int,P=((2^low:Nat):Int):=⟨_,rfl⟩;rw [<- hPe] at e1 e3 f1 f3 hP;have HSTEP:Hid (∀ {a b c d hi nx q:Int},iy (ak xs:Nat) (ak ys:Nat) P Hn Nn a b c d hi nx->nx+c≠0->nx+d≠0->q=(hi+a) / (nx+c)->q=(hi+b) / (nx+d)->(-1073741824<a-q*c/\a-q*c<1073741824)->(-1073741824<b-q*d/\b-q*d<1073741824) ->
   iy (ak xs:Nat) (ak ys:Nat) P Hn Nn c d (a-q*c) (b-q*d) nx (hi-q*nx)/\0<=hi-q*nx/\hi-q*nx<nx/\0<=q/\q*nx<=hi+1073741824):=by
  intro a b c d hi nx q h k1 k2 k3 k4 k5 k6;exact h.step hP e2 e3 f2 f3 e1 f1 hXY k1 k2 k3 k4 k5 k6
 have HST:=ab (iy.start (P:=P) (H:=(Hn:Int)) (N:=(Nn:Int)) hXY hY0 (Int.natCast_nonneg _) (Int.ofNat_le.2 hNH));have HH:=ab hHn;have HN:=ab hNn;have KH:=ab kH;have KN:=ab kN;clear kH kN hk hkb k63 hlow2 e1 e2 e3 f1 f2 f3 hP hXY hY0 hPe hHn hNn;go_wp2_with fail;refine (ij _ xs low _ (WA.out.keep0 g1) KH.out hlowb).mono ?_;rintro e w2 ⟨rfl,q2,rfl⟩;rw [<- HH.out];go_wp2_with fail;refine (ij _ ys low _ (WB.out.keep0 (ar g1 _)) (Nat.lt_of_le_of_lt KN.out KH.out) hlowb).mono ?_;rintro e w3 ⟨rfl,q3,rfl⟩;rw [<- HN.out];clear KH KN HLE HY WA WB TX HH HN hlow g1;go_wp2;go_loopw [6,7] (fun hv nv wr=>Hid (StrR w (ak xs:Nat) (ak ys:Nat) P Hn Nn hv nv wr)) (fun _ nv _=>(intOf nv).toNat)
 case atStart =>
  refine ⟨1,0,0,1,Hn,Nn,rfl,rfl,Int.natCast_nonneg _,HST.out,?_,?_,?_⟩
  ·show ((w.heap.push _).push _)[w.heap.size]? = _
   rw [Array.getElem?_push_lt (by simp),Array.getElem_push_eq]
  ·show ((w.heap.push _).push _)[w.heap.size+1]? = _
   have e:w.heap.size+1=(w.heap.push (Obj.cells #[Value.int .i64 0,Value.int .i64 0,Value.int .i64 0,Value.int .i64 0] 207)).size:=by simp
   rw [e,Array.getElem?_push_size]
  ·exact ag (ar (ag (ae _ _) _) _) _
 case round =>
  obtain ⟨a,b,c,d,hi,nx,rfl,rfl,hnx,hS,hR,hF,hG⟩:=hrel.out;have ha:=hS.ha;have hb:=hS.hb;have hc:=hS.hc;have hd:=hS.hd;have hle:=hS.le;have htop:=hS.top;have hra:=hS.ra;have hrb:=hS.rb;have hrc:=hS.rc;have hrd:=hS.rd;obtain ⟨s0,s1,s2,s3,sf⟩:=hF.cells;obtain ⟨r0,r1,r2,r3,rf⟩:=hR.cells;have sf0:=sf 0;have sf1:=sf 1;have sf2:=sf 2;have sf3:=sf 3;have rf0:=rf 0;have rf1:=rf 1;have rf2:=rf 2;have rf3:=rf 3;have SS:=ab hS;have FF:=ab hF;have GG:=ab hG;have RR:=ab hR;have HEND:Hid (rV w (ak xs:Nat) (ak ys:Nat) (.returned (.agg #[.int .i64 a,.int .i64 b,.int .i64 c,.int .i64 d])) ((((wr.setCell ⟨w.heap.size,0,none⟩ (.int .i64 a)).setCell ⟨w.heap.size,1,none⟩ (.int .i64 b)).setCell ⟨w.heap.size,2,none⟩ (.int .i64 c)).setCell ⟨w.heap.size,3,none⟩ (.int .i64 d))) :=
   ⟨a,b,c,d,rfl,⟨P,Hn,Nn,hi,nx,hS⟩,ss hG (Nat.le_refl _) _ _ _ _⟩
  have HEND2:Hid (∀ n,rV w (ak xs:Nat) (ak ys:Nat) (.returned (.agg #[.int .i64 a,.int .i64 b,.int .i64 c,.int .i64 d])) (((((wr.drewN n).setCell ⟨w.heap.size,0,none⟩ (.int .i64 a)).setCell ⟨w.heap.size,1,none⟩ (.int .i64 b)).setCell ⟨w.heap.size,2,none⟩ (.int .i64 c)).setCell ⟨w.heap.size,3,none⟩ (.int .i64 d))) :=
   fun n=>⟨a,b,c,d,rfl,⟨P,Hn,Nn,hi,nx,hS⟩,ss (ar hG n) (Nat.le_refl _) _ _ _ _⟩
  clear hS hF hG hR sf rf hrel HST;by_cases k1:nx+c=0
  ·have b1:(nx+c != 0)=false:=by rw [bne_eq_false_iff_eq];exact k1
   clear k1;go_wp2;refine bodyPost_ret (v:=.agg #[.int .i64 a,.int .i64 b,.int .i64 c,.int .i64 d]) (by simp [results,Tryz.results165,go_sem,r0,r1,r2,r3]) rfl HEND.out
  ·have b1:(nx+c != 0)=true:=by rw [bne_iff_ne];exact k1
   by_cases k2:nx+d=0
   ·have b2:(nx+d != 0)=false:=by rw [bne_eq_false_iff_eq];exact k2
    clear k1 k2;go_wp2;refine bodyPost_ret (v:=.agg #[.int .i64 a,.int .i64 b,.int .i64 c,.int .i64 d]) (by simp [results,Tryz.results165,go_sem,r0,r1,r2,r3]) rfl HEND.out
   ·have b2:(nx+d != 0)=true:=by rw [bne_iff_ne];exact k2
    have p1:0<nx+c:=by omega
    have p2:0<nx+d:=by omega
    obtain ⟨q,hq⟩:∃ q,(hi+a) / (nx+c)=q:=⟨_,rfl⟩;obtain ⟨q',hq'⟩:∃ q,(hi+b) / (nx+d)=q:=⟨_,rfl⟩;have t1:(hi+a).tdiv (nx+c)=q:=by rw [Int.tdiv_eq_ediv_of_nonneg hra];exact hq
    have t2:(hi+b).tdiv (nx+d)=q':=by rw [Int.tdiv_eq_ediv_of_nonneg hrb];exact hq'
    have q0:0<=q:=by rw [<- hq];exact Int.ediv_nonneg hra (by omega)
    have q0':0<=q':=by rw [<- hq'];exact Int.ediv_nonneg hrb (by omega)
    have q1:q<=hi+a:=by rw [<- hq];exact Int.ediv_le_self _ hra
    have q1':q'<=hi+b:=by rw [<- hq'];exact Int.ediv_le_self _ hrb
    have z1:(nx+c==0)=false:=beq_eq_false_iff_ne.2 k1;have z2:(nx+d==0)=false:=beq_eq_false_iff_ne.2 k2;have K1:=ab k1;have K2:=ab k2;have HQ:=ab hq;have HQ':=ab hq';clear hq hq' k1 k2;by_cases k3:1073741824<=q
    ·go_wp2;refine bodyPost_ret (v:=.agg #[.int .i64 a,.int .i64 b,.int .i64 c,.int .i64 d]) (by simp [results,Tryz.results165,go_sem,r0,r1,r2,r3]) rfl HEND.out
    ·have k3':q<1073741824:=by omega
     by_cases k4:q=q'
     ·have b4:(q != q')=false:=by rw [bne_eq_false_iff_eq];exact k4
      obtain ⟨m1,m2⟩:=uJ q c q0 k3' hc.1 hc.2;obtain ⟨m3,m4⟩:=uJ q d q0 k3' hd.1 hd.2;obtain ⟨C,hC⟩:∃ C,a-q*c=C:=⟨_,rfl⟩;obtain ⟨D,hD⟩:∃ D,b-q*d=D:=⟨_,rfl⟩;obtain ⟨M,hM⟩:∃ M,zS C (-C) D (-D)=M:=⟨_,rfl⟩;have hmax:∀ (ts:Array TypeId) (t:TypeId) (w:World),(Builtin.max_ ts t #[.int .i64 C,.int .i64 (-C),.int .i64 D,.int .i64 (-D)]).run Tryz.prog w=.ok (.int .i64 M) w:=by
       intro ts t w;rw [<- hM];exact CS w ts t .i64 C (-C) D (-D)
      have hCb:-1152921505680588800<C/\C<1152921505680588800:=by omega
      have hDb:-1152921505680588800<D/\D<1152921505680588800:=by omega
      have HK4:=ab k4;have HM:=ab hM;clear k4 hM;by_cases k5:1073741824<=M
      ·go_wp2;go_quiet (fail)
       go_wp2;refine bodyPost_ret (v:=.agg #[.int .i64 a,.int .i64 b,.int .i64 c,.int .i64 d]) (by simp [results,Tryz.results165,go_sem,r0,r1,r2,r3]) rfl (HEND2.out _)
      ·have hlt:zS C (-C) D (-D)<1073741824:=by rw [HM.out];omega
       rw [max4_lt] at hlt;obtain ⟨n1,n2,n3,n4⟩:=hlt;obtain ⟨st,st1,st2,st3,st4⟩:=HSTEP.out SS.out K1.out K2.out HQ.out.symm (by rw [HK4.out];exact HQ'.out.symm) (by rw [hC];omega) (by rw [hD];omega);rw [hC,hD] at st;have st0:0<=q*nx:=Int.mul_nonneg q0 hnx;have ST:=ab st;clear st;go_wp2;go_quiet (fail)
       go_wp2;go_roundw
       case rel=>exact ⟨c,d,C,D,nx,hi-q*nx,rfl,rfl,st1,ST.out,kR.other (w:=wr.drewN _) RR.out (by omega) _ _ _ _,kR.set (w:=wr.drewN _) FF.out,ss (ar GG.out _) (by omega) _ _ _ _⟩
       case measure=>simp [intOf];omega
     ·have b4:(q != q')=true:=by rw [bne_iff_ne];exact k4
      clear k4;go_wp2;refine bodyPost_ret (v:=.agg #[.int .i64 a,.int .i64 b,.int .i64 c,.int .i64 d]) (by simp [results,Tryz.results165,go_sem,r0,r1,r2,r3]) rfl HEND.out
def GcdR (w:World) (G L:Nat) (k:Nat) (av bv:Value) (wr:World):Prop :=
 ∃ xs ys:List Nat,Ws wr av xs/\Ws wr bv ys/\Tr xs/\Tr ys/\0<ak xs/\xs.length<=L/\ys.length<=L/\Nat.gcd (ak xs) (ak ys)=G/\w.grownBy wr none/\ak ys=k/\ak ys<=ak xs
theorem AF {u v X Y:Int} (h:Int.gcd u v=Int.gcd X Y) (hu:0<=u) (hv:0<=v) (hX:0<=X) (hY:0<=Y):Nat.gcd u.toNat v.toNat=Nat.gcd X.toNat Y.toNat:=by
 have e:∀ z:Int,0<=z->z.natAbs=z.toNat:=fun z hz=>by omega
 unfold Int.gcd at h;rw [e u hu,e v hv,e X hX,e Y hY] at h;exact h
theorem oF.gives {X Y:Nat} {a b c d:Int} (h:oF X Y a b c d) :
  (-1073741824<a/\a<1073741824)/\(-1073741824<b/\b<1073741824)/\(-1073741824<c/\c<1073741824)/\(-1073741824<d/\d<1073741824) /\
  0<=a*X+b*Y/\a*X+b*Y<=X/\0<=c*X+d*Y/\c*X+d*Y<=X/\0<(a*X+b*Y).toNat/\(c*X+d*Y).toNat<=(a*X+b*Y).toNat /\
  Nat.gcd (a*X+b*Y).toNat (c*X+d*Y).toNat=Nat.gcd X Y/\(b≠0->(c*X+d*Y).toNat<Y):=by
 obtain ⟨P,H,N,hi,nx,h⟩:=h;have u0:=h.u0;have v0:=h.v0;have vu:=h.vu;have ux:=h.ux;refine ⟨h.ha,h.hb,h.hc,h.hd,by omega,ux,v0,by omega,by omega,by omega,?_,?_⟩
 ·have:=AF h.g (by omega) v0 (Int.natCast_nonneg _) (Int.natCast_nonneg _);rw [this,Int.toNat_natCast,Int.toNat_natCast]
 ·intro hb;rcases h.bs with ⟨_,e,_⟩ | ⟨_,e⟩
  ·exact absurd e hb
  ·omega
theorem bits_le {n k:Nat} (h:oE n k) (hk:k<=62):n<4611686018427387904:=by
 rcases h with ⟨h,_⟩ | ⟨_,_,h⟩
 ·omega
 ·have:=Nat.pow_le_pow_right (n:=2) (by decide) hk;omega
theorem bits_gt {n k:Nat} (h:oE n k) (hk:62<k):4611686018427387904<=n:=by
 rcases h with ⟨_,h⟩ | ⟨_,h,_⟩
 ·omega
 ·have:=Nat.pow_le_pow_right (n:=2) (by decide) (show 62<=k-1 by omega);omega
theorem AH (n:Nat) (h:n<18446744073709551616):Sm [n % 4294967296,n / 4294967296]/\ak [n % 4294967296,n / 4294967296]=n:=by
 constructor
 ·exact Sm.cons (by omega) (Sm.cons (by omega) Sm.nil)
 ·simp only [ak];omega
theorem aU.shape {w:World} {v:Value} {n L:Nat} (h:aU w v n L):∃ o l c,v=.slice o l c/\(l=0↔n=0)/\l<=c/\c<=maxLen:=by
 obtain ⟨xs,h1,h2,h3,h4⟩:=h;obtain ⟨o,c,rfl,h5,h6,_⟩:=h1.open;refine ⟨o,_,c,rfl,?_,h5,h6⟩;constructor
 ·intro e;have:xs=[]:=List.eq_nil_of_length_eq_zero e;rw [this] at h3;simp [ak] at h3;omega
 ·intro e;rcases Nat.eq_zero_or_pos xs.length with h | h
  ·exact h
  ·have:=iZ h2 (by intro e;rw [e] at h;simp at h);have p3:0<4294967296^(xs.length-1):=Nat.pow_pos (by decide);omega
theorem cR {w:World} (k:Nat):w.grownBy (w.drewN k) none:=ar (ae _ _) k
def GcdE (w:World) (G L:Nat) (e:Ending) (w':World):Prop:=∃ g,e=.returned g/\aU w' g G L/\w.grownBy w' none
def LastR (G:Nat) (hv lv:Value):Prop:=∃ h l:Nat,hv=.int .i64 (h:Nat)/\lv=.int .i64 (l:Nat)/\h<4611686018427387904/\l<4611686018427387904/\Nat.gcd h l=G
theorem iO (va vb:Value) (xs0 ys0:List Nat) (w:World) (ha:Ws w va xs0) (hb:Ws w vb ys0) (tx0:Tr xs0) (ty0:Tr ys0) (hx0:0<ak xs0∨0<ak ys0) (L:Nat) (hlx:xs0.length<=L) (hly:ys0.length<=L) (hl:L<=8000000000000) :
  Calls Tryz.prog 135 #[va,vb] w fun e w'=>GcdE w (Nat.gcd (ak xs0) (ak ys0)) L e w':=by
 obtain ⟨ao,ca,ea,hca,hca',Ha⟩:=ha.open;obtain ⟨bo,cb,eb,hcb,hcb',Hb⟩:=hb.open;obtain ⟨G,hG⟩:∃ G,G=Nat.gcd (ak xs0) (ak ys0):=⟨_,rfl⟩;rw [<- hG];have key:(∃ k0,(∀ wq,w.grownBy wq none->GcdR w G L k0 (.slice bo ys0.length cb) (.slice ao xs0.length ca) wq)/\iG (ak xs0) (ak ys0)<0)∨(∃ k0,(∀ wq,w.grownBy wq none->GcdR w G L k0 (.slice ao xs0.length ca) (.slice bo ys0.length cb) wq)/\0<=iG (ak xs0) (ak ys0)):=by
  rcases Nat.lt_or_ge (ak xs0) (ak ys0) with hlt | hle
  ·exact .inl ⟨ak xs0,fun wq hq=>⟨ys0,xs0,by rw [<- eb];exact hb.keep0 hq,by rw [<- ea];exact ha.keep0 hq,ty0,tx0,by omega,hly,hlx,by rw [Nat.gcd_comm];exact hG.symm,hq,rfl,Nat.le_of_lt hlt⟩,sC hlt⟩
  ·exact .inr ⟨ak ys0,fun wq hq=>⟨xs0,ys0,by rw [<- ea];exact ha.keep0 hq,by rw [<- eb];exact hb.keep0 hq,tx0,ty0,by omega,hlx,hly,hG.symm,hq,rfl,hle⟩,mU hle⟩
 have WA:=ab ha;have WB:=ab hb;have TX:=ab tx0;have TY:=ab ty0;subst ea eb;clear Ha Hb ha hb tx0 ty0 hx0 hlx hly hG hca hca' hcb hcb';rcases key with ⟨k0,h0,hord⟩ | ⟨k0,h0,hord⟩
 all_goals
  have H0:=ab h0;clear h0;go_enter Tryz.func135,Tryz.ntmps135
  go_wp2_with fail;refine (fS _ _ xs0 ys0 _ WA.out WB.out TX.out TY.out).mono ?_;rintro e w1 ⟨rfl,q1,rfl⟩;generalize iG (ak xs0) (ak ys0)=o1 at hord ⊢;clear WA WB TX TY;go_wp2;go_loopg [0,1] k0 (fun k av bv wr=>Hid (GcdR w G L k av bv wr))
  case atStart=>exact H0.out _ (aj _)
  case round =>
   obtain ⟨xs,ys,h1,h2,h3,h4,h5,h6,h7,h8,h9,h10,h11⟩:=hrel.out;obtain ⟨ao',ca',rfl,hca,hca',_⟩:=h1.open;obtain ⟨bo',cb',rfl,hcb,hcb',_⟩:=h2.open;unfold maxLen at hca' hcb';have hyx:ys.length<=xs.length:=lA h2.sm h4 h1.sm h11;have H1:=ab h1;have H2:=ab h2;have H3:=ab h3;have H4:=ab h4;have H5:=ab h5;have H8:=ab h8;have H9:=ab h9;have H10:=ab h10;have H11:=ab h11;clear h1 h2 h3 h4 h5 h8 h9 h10 h11 hrel H0;go_wp2_with fail;refine (lO _ (ak ys) L _ ⟨ys,H2.out,H4.out,rfl,h7⟩ (by omega)).mono ?_;rintro e w2 ⟨kb,rfl,hkb,hkb2,rfl⟩;by_cases hbig:62<kb
   ·have hY:=ab (bits_gt hkb hbig);clear hkb hkb2;go_wp2_with fail;refine (vi _ _ xs ys _ H1.out H2.out H3.out H11.out hY.out (by omega)).mono ?_;rintro e w3 ⟨a,b,c,d,rfl,hst,g3⟩;obtain ⟨i1,i2,i3,i4,i5,i6,i7,i8,i9,i10,i11,i12⟩:=hst.gives;have G3:=ab g3;have I5:=ab i5;have I6:=ab i6;have I7:=ab i7;have I8:=ab i8;have I9:=ab i9;have I10:=ab i10;have I11:=ab i11;have I12:=ab i12;clear hst g3 i5 i6 i7 i8 i9 i10 i11 i12;by_cases hb0:b=0
    ·have bb:(b==0)=true:=beq_iff_eq.2 hb0;clear hb0;have hq0:Hid (0<ak ys):=by have:=hY.out;show 0<ak ys;omega
     have ga:w3.grownBy (w3.alloc (Obj.cells #[Value.int .i64 a,Value.int .i64 b,Value.int .i64 c,Value.int .i64 d] 207)) none:=ag (ae _ _) _;have GA:=ab (aa G3.out ga);clear ga;go_wp2_with fail;refine (jg _ _ (ak xs) (ak ys) L L _ ⟨xs,H1.out.keep0 GA.out,H3.out,rfl,h6⟩ ⟨ys,H2.out.keep0 GA.out,H4.out,rfl,h7⟩ hq0.out (by omega)).mono ?_;intro e w4 hD;obtain ⟨q,r,rfl,k1,⟨rs,r1,r2,r3,r4⟩,k3,k4,k5⟩:=hD;obtain ⟨ro',cr',rfl,hcr,hcr',_⟩:=r1.open;obtain ⟨qo',ql',qc',rfl,_,_,_⟩:=k1.shape;have R1:=ab r1;have R2:=ab r2;have R3:=ab r3;have K3:=ab k3;clear k1 r1 r2 r3 k3 k4 k5;go_wp2;have hm:=Nat.mod_lt (ak xs) hq0.out;go_roundg (ak rs)
     case measure=>rw [R3.out,<- H10.out];exact hm
     case rel=>exact ⟨ys,rs,H2.out.keep0 (aa GA.out K3.out),R1.out,H4.out,R2.out,hq0.out,h7,r4,by rw [R3.out,Nat.gcd_comm,<- Nat.gcd_rec,Nat.gcd_comm];exact H8.out,aa H9.out (aa GA.out K3.out),rfl,by rw [R3.out];exact Nat.le_of_lt hm⟩
    ·have bb:(b==0)=false:=beq_eq_false_iff_ne.2 hb0;have HB0:=ab hb0;clear hb0;obtain ⟨W,hW⟩:∃ W,W=w3.alloc (Obj.cells #[Value.int .i64 a,Value.int .i64 b,Value.int .i64 c,Value.int .i64 d] 207):=⟨_,rfl⟩;have hF:kR W w3.heap.size a b c d:=by
      rw [hW];show (w3.heap.push _)[w3.heap.size]? = _
      rw [Array.getElem?_push_size]
     have GW:=ab (aa G3.out (show w3.grownBy W none by rw [hW];exact ag (ae _ _) _));have CELLS:Hid (∀ wx,W.grownBy wx none->wx.cell? ⟨w3.heap.size,0,none⟩=some (.int .i64 a)/\wx.cell? ⟨w3.heap.size,1,none⟩=some (.int .i64 b)/\wx.cell? ⟨w3.heap.size,2,none⟩=some (.int .i64 c)/\wx.cell? ⟨w3.heap.size,3,none⟩=some (.int .i64 d)):=by
      intro wx hg;obtain ⟨s0,s1,s2,s3,_⟩:=hF.cells;exact ⟨hg.cell s0 (by simp),hg.cell s1 (by simp),hg.cell s2 (by simp),hg.cell s3 (by simp)⟩
     have WSX:Hid (∀ wx,W.grownBy wx none->Ws wx (.slice ao' xs.length ca') xs):=fun wx hg=>H1.out.keep0 (aa GW.out hg)
     have WSY:Hid (∀ wx,W.grownBy wx none->Ws wx (.slice bo' ys.length cb') ys):=fun wx hg=>H2.out.keep0 (aa GW.out hg)
     obtain ⟨s0,s1,s2,s3⟩:=CELLS.out W (ae _ _);have hl2:xs.length<=10000000000000:=by omega
     clear hF;go_wp2;rw [<- hW];clear hW;go_region_held3 (fun w'=>w'.cell? ⟨w3.heap.size,0,none⟩=some (.int .i64 a)/\w'.cell? ⟨w3.heap.size,1,none⟩=some (.int .i64 b)/\w'.cell? ⟨w3.heap.size,2,none⟩=some (.int .i64 c)/\w'.cell? ⟨w3.heap.size,3,none⟩=some (.int .i64 d)) (go_keep)
      (first | (go_at_call_of 166 (Value.int .i64 a);refine (oQ _ _ xs ys a b _ _ (WSX.out _ (by first | exact cR _ | exact aa G1 (cR _) | exact aa G2 (cR _) | exact ae _ _ | exact G1 | exact G2)) (WSY.out _ (by first | exact cR _ | exact aa G1 (cR _) | exact aa G2 (cR _) | exact ae _ _ | exact G1 | exact G2)) hyx i1.1 i1.2 i2.1 i2.2 rfl I5.out I6.out hl2).mono ?_;rintro e w4 ⟨v1,rfl,k1,k2,k3⟩;have G1:W.grownBy w4 none:=aa (by first | exact cR _ | exact aa G1 (cR _) | exact aa G2 (cR _) | exact ae _ _ | exact G1 | exact G2) k2;have s10:=(CELLS.out w4 G1).1;have s11:=(CELLS.out w4 G1).2.1;have s12:=(CELLS.out w4 G1).2.2.1;have s13:=(CELLS.out w4 G1).2.2.2) | (go_at_call_of 166 (Value.int .i64 c);refine (oQ _ _ xs ys c d _ _ (WSX.out _ (by first | exact cR _ | exact aa G1 (cR _) | exact aa G2 (cR _) | exact ae _ _ | exact G1 | exact G2)) (WSY.out _ (by first | exact cR _ | exact aa G1 (cR _) | exact aa G2 (cR _) | exact ae _ _ | exact G1 | exact G2)) hyx i3.1 i3.2 i4.1 i4.2 rfl I7.out I8.out hl2).mono ?_;rintro e w5 ⟨v2,rfl,m1,m2,m3⟩;have G2:W.grownBy w5 none:=aa (by first | exact cR _ | exact aa G1 (cR _) | exact aa G2 (cR _) | exact ae _ _ | exact G1 | exact G2) m2;have s20:=(CELLS.out w5 G2).1;have s21:=(CELLS.out w5 G2).2.1;have s22:=(CELLS.out w5 G2).2.2.1;have s23:=(CELLS.out w5 G2).2.2.2))
     all_goals first
      | (have K1:=ab (k1.keep0 (by first | exact m2 | exact aa gr_drew1 m2 | exact aa (cR _) m2));have M1:=ab m1;have GF:=ab (aa GW.out G2);clear k1 k2 k3 m1 m2 m3 G1 G2 s10 s11 s12 s13 s20 s21 s22 s23)
      | (have K1:=ab k1;have M1:=ab (m1.keep0 (by first | exact k2 | exact aa gr_drew1 k2 | exact aa (cR _) k2));have GF:=ab (aa GW.out G1);clear k1 k2 k3 m1 m2 m3 G1 G2 s10 s11 s12 s13 s20 s21 s22 s23)
     all_goals
      obtain ⟨us,x1,x2,x3,x4⟩:=K1.out;obtain ⟨vs,y1,y2,y3,y4⟩:=M1.out;obtain ⟨uo,uc,rfl,hu1,hu2,_⟩:=x1.open;obtain ⟨vo,vc,rfl,hv1,hv2,_⟩:=y1.open;have X1:=ab x1;have X2:=ab x2;have X3:=ab x3;have Y1:=ab y1;have Y2:=ab y2;have Y3:=ab y3;clear x1 x2 x3 y1 y2 y3 K1 M1 s0 s1 s2 s3;go_wp2;go_roundg (ak vs)
      case measure=>rw [Y3.out,<- H10.out];exact I12.out HB0.out
      case rel=>exact ⟨us,vs,X1.out,Y1.out,X2.out,Y2.out,by rw [X3.out];exact I9.out,by omega,by omega,by rw [X3.out,Y3.out,I11.out];exact H8.out,aa H9.out GF.out,rfl,by rw [X3.out,Y3.out];exact I10.out⟩
   ·have hsm:=ab (bits_le hkb (by omega));clear hkb hkb2;by_cases hy0:ys.length=0
    ·have E0:Hid (ys=[]):=List.eq_nil_of_length_eq_zero hy0;have bb:(((ys.length:Nat):Int)==0)=true:=beq_iff_eq.2 (by omega);clear hy0;go_wp2;go_ret;refine ⟨_,rfl,⟨xs,H1.out,H3.out,?_,h6⟩,H9.out⟩;have:=H8.out;rw [E0.out] at this;simp only [ak,Nat.gcd_zero_right] at this;exact this
    ·have bb:(((ys.length:Nat):Int)==0)=false:=beq_eq_false_iff_ne.2 (by omega);have hq0:Hid (0<ak ys):=by
      have:=iZ H4.out (by intro e;rw [e] at hy0;simp at hy0);have p3:0<4294967296^(ys.length-1):=Nat.pow_pos (by decide);show 0<ak ys
      omega
     clear hy0;go_wp2_with fail;refine (jg _ _ (ak xs) (ak ys) L L _ ⟨xs,H1.out,H3.out,rfl,h6⟩ ⟨ys,H2.out,H4.out,rfl,h7⟩ hq0.out (by omega)).mono ?_;intro e w4 hD;obtain ⟨q,r,rfl,k1,⟨rs,r1,r2,r3,r4⟩,k3,k4,k5⟩:=hD;obtain ⟨ro',cr',rfl,hcr,hcr',_⟩:=r1.open;obtain ⟨qo',ql',qc',rfl,_,_,_⟩:=k1.shape;have hm:=Nat.mod_lt (ak xs) hq0.out;have hlo:Hid (ak rs<4611686018427387904):=by have:=hsm.out;show ak rs<_;omega
     have R1:=ab r1;have R3:=ab r3;have K3:=ab k3;obtain ⟨yn,hyn⟩:∃ yn,yn=ak ys:=⟨_,rfl⟩;obtain ⟨rn,hrn⟩:∃ rn,rn=ak rs:=⟨_,rfl⟩;have hynb:yn<4611686018427387904:=by rw [hyn];exact hsm.out
     have hrnb:rn<4611686018427387904:=by rw [hrn];exact hlo.out
     have HG:Hid (Nat.gcd yn rn=G):=by rw [hyn,hrn,R3.out,Nat.gcd_comm,<- Nat.gcd_rec,Nat.gcd_comm];exact H8.out
     have HYN:=ab hyn;have HRN:=ab hrn;clear k1 r1 r2 r3 k3 k4 k5 hm hyn hrn;go_wp2_with fail;refine (ij _ ys 0 _ (H2.out.keep0 K3.out) (by rw [Nat.pow_zero,Nat.div_one];exact hsm.out) (by omega)).mono ?_;rintro e w5 ⟨rfl,q5,rfl⟩;rw [Nat.pow_zero,Nat.div_one,<- HYN.out];go_wp2_with fail;refine (ij _ rs 0 _ (R1.out.keep0 (aj _)) (by rw [Nat.pow_zero,Nat.div_one];exact hlo.out) (by omega)).mono ?_;rintro e w6 ⟨rfl,q6,rfl⟩;rw [Nat.pow_zero,Nat.div_one,<- HRN.out];have GW:Hid (w.grownBy ((w4.drewN q5).drewN q6) none):=aa H9.out (aa K3.out (aa (aj _) (aj _)));obtain ⟨W,hW⟩:∃ W,W=(w4.drewN q5).drewN q6:=⟨_,rfl⟩;rw [<- hW] at GW ⊢;clear hW;go_wp2;go_loopw [10,11] (fun hv lv wr=>Hid (LastR G hv lv/\w.grownBy wr none)) (fun _ lv _=>(intOf lv).toNat)
     case atStart=>exact ⟨⟨yn,rn,rfl,rfl,hynb,hrnb,HG.out⟩,GW.out⟩
     case round =>
      obtain ⟨⟨h,l,rfl,rfl,hh,hl',hg⟩,hgr⟩:=hrel.out;have HG2:=ab hg;have HGR:=ab hgr;clear hg hgr hrel;by_cases hl0:0<l
      ·have zz:(((l:Nat):Int)==0)=false:=beq_eq_false_iff_ne.2 (by omega);obtain ⟨m,hm⟩:∃ m,m=h % l:=⟨_,rfl⟩;have hmb:m<l:=by rw [hm];exact Nat.mod_lt _ hl0
       have e1:((h:Nat):Int).tmod (l:Int)=(m:Int):=by
        rw [Int.tmod_eq_emod_of_nonneg (by omega),hm];exact (Int.natCast_emod h l).symm
       have HM:=ab hm;clear hm;go_wp2;go_quiet (fail)
       go_wp2;go_roundw
       case rel=>exact ⟨⟨l,m,rfl,rfl,hl',by omega,by rw [HM.out,Nat.gcd_comm,<- Nat.gcd_rec,Nat.gcd_comm];exact HG2.out⟩,aa HGR.out (cR _)⟩
       case measure=>simp [intOf];omega
      ·obtain rfl:l=0:=by omega
       have hG:Hid (h=G):=by have:=HG2.out;rw [Nat.gcd_zero_right] at this;exact this
       obtain ⟨x0,hx0⟩:∃ x0,x0=h % 4294967296:=⟨_,rfl⟩;obtain ⟨x1,hx1⟩:∃ x1,x1=h / 4294967296:=⟨_,rfl⟩;have e0:((h:Nat):Int) % 4294967296=(x0:Int):=by omega
       have e1:((h:Nat):Int) / 4294967296=(x1:Int):=by omega
       obtain ⟨t1,t2⟩:=AH h (by omega);rw [<- hx0,<- hx1] at t1 t2;have T1:=ab t1;have T2:=ab t2;clear t1 t2 hx0 hx1 HG2;go_wp2_with fail;have ha:ch (wr.alloc (Obj.cells #[Value.int IntKind.u32 (x0:Int),Value.int IntKind.u32 (x1:Int)] 140)) wr.heap.size [x0,x1]:=by
        unfold ch;show (wr.heap.push _)[wr.heap.size]? = _
        rw [Array.getElem?_push_size];rfl
       have hw:=ha.ws T1.out (by unfold maxLen;simp);clear ha;refine (fA _ _ _ hw).mono ?_;rintro e w7 ⟨v',rfl,rfl,k1,k2⟩;have K1:=ab k1;clear hw k1 k2;go_wp2;go_ret;obtain ⟨zs,z1,z2,z3,z4⟩:=K1.out;rw [T2.out,hG.out] at z3;have hGl:G<=ak ys:=by rw [<- H8.out];exact Nat.gcd_le_right _ hq0.out
       have hzl:=lA z1.sm z2 H2.out.sm (show ak zs<=ak ys by omega);exact ⟨v',rfl,⟨zs,z1,z2,z3,by omega⟩,ag HGR.out _⟩
end Go.Proofs.YthblidglcppakaaGreatDoor
