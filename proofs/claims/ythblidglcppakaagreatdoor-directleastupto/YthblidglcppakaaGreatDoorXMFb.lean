/- Contracts that the proof leans on. -/
import Derived.Test.YthblidglcppakaaGreatDoorXCFb
import Derived.Test.YthblidglcppakaaGreatDoorXMFa
namespace Go.Proofs.YthblidglcppakaaGreatDoor
open Go.RowKit
set_option linter.unusedVariables false
set_option linter.unusedSimpArgs false
set_option maxHeartbeats 8000000
set_option maxRecDepth 10000
def oE (n k:Nat):Prop:=(n=0/\k=0)∨(1<=k/\2^(k-1)<=n/\n<2^k)
theorem ym (k:Nat):4294967296^k=2^(32*k):=by rw [Nat.pow_mul]
theorem Dg {xs:List Nat} {t:Nat} (sx:Sm xs) (hx0:0<xs.length) (et:xs[xs.length-1]? = some t) (h0:0<t):oE (ak xs) (32*(xs.length-1)+Lib.bitLen t):=by
 obtain ⟨hlt,hte⟩:=List.getElem?_eq_some_iff.1 et;have htb:=sx.get _ hlt;rw [hte] at htb;obtain ⟨b1,b2,b3,b4⟩:=mH t h0 htb;have e1:=ay xs (xs.length-1) hlt;rw [List.take_of_length_le (by omega),hte] at e1;have hlo:=bD (sx.take (xs.length-1));rw [List.length_take,show min (xs.length-1) xs.length=xs.length-1 from by omega] at hlo;refine .inr ⟨by omega,?_,?_⟩
 ·rw [show 32*(xs.length-1)+Lib.bitLen t-1=32*(xs.length-1)+(Lib.bitLen t-1) from by omega,Nat.pow_add,<- ym];have:=Nat.mul_le_mul_left (4294967296^(xs.length-1)) b3;omega
 ·rw [Nat.pow_add,<- ym];have a2:4294967296^(xs.length-1)*(t+1)<=4294967296^(xs.length-1)*2^Lib.bitLen t:=Nat.mul_le_mul_left _ b4;rw [Nat.mul_add,Nat.mul_one] at a2;omega
def AL (w:World) (n L:Nat) (e:Ending) (w':World):Prop:=∃ k:Nat,e=.returned (.int .i64 k)/\oE n k/\k<=32*L/\w'=w
theorem lO (va:Value) (n L:Nat) (w:World) (ha:aU w va n L) (hl:L<=10000000000000) :
  Calls Tryz.prog 140 #[va] w fun e w'=>AL w n L e w':=by
 obtain ⟨xs,h1,h2,h3,h4⟩:=ha;obtain ⟨ao,ca,rfl,hca,hca',Ha⟩:=h1.open;unfold maxLen at hca';by_cases h0:xs.length=0
 ·have e:xs=[]:=List.eq_nil_of_length_eq_zero h0;subst e;have HE:Hid (AL w n L (.returned (.int .i64 ((0:Nat):Int))) w):=⟨0,rfl,.inl ⟨h3.symm,rfl⟩,by omega,rfl⟩;clear h1 h2 h3 h4 Ha;go_enter Tryz.func140,Tryz.ntmps140
  go_wp2;go_ret;exact HE.out
 ·obtain ⟨t,et,ht⟩:=xF h2 (by intro e;rw [e] at h0;simp at h0);obtain ⟨b,off,rfl,hb,hc⟩:=Ha (xs.length-1) (by omega);rw [(List.getElem?_eq_some_iff.1 et).2] at hc;have htb:=h1.sm.get (xs.length-1) (by omega);rw [(List.getElem?_eq_some_iff.1 et).2] at htb;obtain ⟨b1,b2,b3,b4⟩:=mH t ht htb;have hbits:=Dg h1.sm (by omega) et ht;have hne:(((xs.length:Nat):Int)==0)=false:=beq_eq_false_iff_ne.2 (by omega);obtain ⟨j,hj⟩:∃ j,xs.length=j+1:=⟨xs.length-1,by omega⟩;have hc':w.cell? ⟨b,off+j,none⟩=some (.int .u32 (t:Nat)):=by
   rw [show j=xs.length-1 from by omega];exact hc
  obtain ⟨K,hK⟩:∃ K,K=Lib.bitLen t:=⟨_,rfl⟩;rw [<- hK] at b1 b2 hbits;have HE:Hid (AL w n L (.returned (.int .i64 ((32*(xs.length-1)+K:Nat):Int))) w):=⟨_,rfl,by rw [<- h3];exact hbits,by omega,rfl⟩;have HJ:=ab hj;have HK:=ab hK;clear h1 h2 h3 Ha hc et b3 b4 hbits hK;go_enter Tryz.func140,Tryz.ntmps140
  go_wp2_with fail;refine (Tryz.bits_Len32 (t:Int) _ (by omega) (by omega)).mono ?_;rintro e w2 ⟨rfl,rfl⟩;rw [Int.toNat_natCast,<- HK.out];go_wp2;go_ret;have:=HE.out;have ez:(((32*(xs.length-1)+K:Nat):Int))=32*(j:Int)+K:=by have:=HJ.out;omega
  rw [ez] at this;exact this
theorem pf (a b:Nat) (ha:a<9223372036854775808) (hb:b<9223372036854775808):bits .or .i64 (a:Int) (b:Int)=((a ||| b:Nat):Int):=by
 have hx:a ||| b<2^63:=Nat.or_lt_two_pow (by omega) (by omega)
 show IntKind.i64.wrap ((BitVec.ofInt 64 (a:Int) ||| BitVec.ofInt 64 (b:Int)).toNat:Int)=_
 rw [BitVec.toNat_or,ofInt_u64 a (by omega),ofInt_u64 b (by omega)];rw [IntWalk.i64_in _ ⟨by omega,by omega⟩]
theorem Cj (r x:Nat) (hr:r<2147483648) (hx:x<4294967296):bits .or .i64 ((r:Int)*4294967296) (x:Int)=((r*4294967296+x:Nat):Int):=by
 have h:=pf (r*4294967296) x (by omega) (by omega);rw [Int.natCast_mul] at h;have e:(r*4294967296) ||| x=r*4294967296+x:=nat_join 32 _ _ (by omega) (by omega)
 rw [e] at h;exact h
theorem BE (xs:List Nat) (lo s:Nat) (sx:Sm xs) (hlo:lo<xs.length) (hs:s<32):ak xs / 2^(32*lo+s)=ak (xs.drop (lo+1))*2^(32-s)+xs[lo] / 2^s/\xs[lo] / 2^s<2^(32-s):=by
 have hx:=sx.get lo hlo;have p:2^s*2^(32-s)=4294967296:=by rw [<- Nat.pow_add,show s+(32-s)=32 from by omega]
 constructor
 ·rw [Nat.pow_add,<- Nat.div_div_eq_div_mul,<- ym,kr xs lo sx (by omega),cT xs lo];have e:xs.getD lo 0=xs[lo]:=by simp [hlo]
  rw [e,<- p,Nat.mul_assoc,Nat.add_mul_div_left _ _ (Nat.two_pow_pos s),Nat.mul_comm (ak _),Nat.add_comm]
 ·rw [Nat.div_lt_iff_lt_mul (Nat.two_pow_pos s),Nat.mul_comm,p];exact hx
theorem zy (s x o V:Nat) (hs:s<32) (hV:V=o*2^(32-s)+x / 2^s) (h2:x / 2^s<2^(32-s)) (hb:V<4611686018427387904) :
  ∃ T p r:Nat,1<=T/\T<=32/\32-(s:Int)=(T:Int)/\(o:Int)*2^T=(p:Int)/\(x:Int) / 2^s=(r:Int)/\bits .or .i64 (p:Int) (r:Int)=(V:Int)/\p<=V/\r<=V/\V<4611686018427387904:=by
 have hmod:o*2^(32-s) % 2^(32-s)=0:=by rw [Nat.mul_mod_left]
 refine ⟨32-s,o*2^(32-s),x / 2^s,by omega,by omega,by omega,?_,mh x s,?_,?_,?_,hb⟩
 ·rw [Int.natCast_mul,Int.natCast_pow];rfl
 ·have j:=nat_join (32-s) _ _ hmod h2;generalize o*2^(32-s)=p at *;generalize x / 2^s=r at *;clear h2 hmod;rw [pf _ _ (by omega) (by omega),j,hV]
 ·rw [hV];exact Nat.le_add_right _ _
 ·rw [hV];exact Nat.le_add_left _ _
def FromR (xs:List Nat) (lo:Nat) (ov iv:Value):Prop:=∃ (z:Int) (o:Nat),lo<=z/\z<xs.length/\iv=.int .i64 z/\ov=.int .i64 (o:Nat)/\Hid (o=ak (xs.drop (z+1).toNat))
theorem xQ (xs:List Nat) (i j:Nat) (h:i<=j) (hj:j<=xs.length) (sx:Sm xs):ak (xs.drop j)<=ak (xs.drop i):=by
 have e:xs.drop j=(xs.drop i).drop (j-i):=by rw [List.drop_drop];congr 1;omega
 rw [e,<- kr (xs.drop i) (j-i) (sx.drop i) (by rw [List.length_drop];omega)];exact Nat.div_le_self _ _
theorem ij (va:Value) (xs:List Nat) (bit:Nat) (w:World) (ha:Ws w va xs) (hb:ak xs / 2^bit<4611686018427387904) (hbit:bit<=400000000000000) :
  Calls Tryz.prog 167 #[va,.int .i64 (bit:Nat)] w fun e w'=>e=.returned (.int .i64 ((ak xs / 2^bit:Nat):Int))/\∃ q,w'=w.drewN q:=by
 obtain ⟨ao,ca,rfl,hca,hca',Ha⟩:=ha.open;unfold maxLen at hca';obtain ⟨lo,hlo⟩:∃ lo,lo=bit / 32:=⟨_,rfl⟩;obtain ⟨s,hs⟩:∃ s,s=bit % 32:=⟨_,rfl⟩;have hs32:s<32:=by omega
 have hbs:bit=32*lo+s:=by omega
 have e1:((bit:Nat):Int) / 32=(lo:Int):=by omega
 have e2:((bit:Nat):Int) % 32=(s:Int):=by omega
 have d1:((bit:Nat):Int).tdiv 32=(lo:Int):=by rw [Int.tdiv_eq_ediv_of_nonneg (by omega)];exact e1
 have d2:((bit:Nat):Int).tmod 32=(s:Int):=by rw [Int.tmod_eq_emod_of_nonneg (by omega)];exact e2
 by_cases hl:lo<xs.length
 ·obtain ⟨f1,f2⟩:=BE xs lo s ha.sm hl hs32;rw [<- hbs] at f1;rw [f1];rw [f1] at hb;have HB:=ab hb;have HA:=ab Ha;have SA:=ab ha.sm;have hd1:ak (xs.drop (lo+1))<2305843009213693952:=by
   have p:2<=2^(32-s):=by
    have:=Nat.pow_le_pow_right (n:=2) (by decide) (show 1<=32-s by omega);omega
   have:=Nat.mul_le_mul_left (ak (xs.drop (lo+1))) p;generalize xs[lo] / 2^s=r at hb;omega
  have HD1:=ab hd1;obtain ⟨b,off,rfl,hbb,hcell⟩:=Ha lo hl;obtain ⟨x,ex⟩:∃ x,x=xs[lo]:=⟨_,rfl⟩;have hx:=ha.sm.get lo hl;rw [<- ex] at hcell hx f2 ⊢;rw [<- ex] at HB;have F2:=ab f2;obtain ⟨V,hV⟩:∃ V,V=ak (xs.drop (lo+1))*2^(32-s)+x / 2^s:=⟨_,rfl⟩;rw [<- hV];have HV:=ab hV;clear Ha ha hb f1 f2 hlo hs hbs hd1 ex hV;go_enter Tryz.func167,Tryz.ntmps167
  go_wp2;clear e1 e2 d1 d2;go_loop [7,8] (fun ov iv=>Hid (FromR xs lo ov iv)) (fun _ iv=>(intOf iv).toNat-lo)
  case atStart=>exact ⟨(xs.length:Int)-1,0,by omega,by omega,by go_num,rfl,by rw [show ((xs.length:Int)-1+1).toNat=xs.length from by omega,List.drop_of_length_le (Nat.le_refl _)];rfl⟩
  case round =>
   obtain ⟨z,o,hz1,hz2,rfl,rfl,HO⟩:=hrel.out;clear hrel;obtain ⟨j,rfl⟩:∃ j:Nat,z=j:=⟨z.toNat,by omega⟩;have ho:o<2305843009213693952:=by
    have h1:=HO.out;rw [show ((j:Int)+1).toNat=j+1 from by omega] at h1;have h2:=xQ xs (lo+1) (j+1) (by omega) (by omega) SA.out;have:=HD1.out;omega
   by_cases hj:lo<j
   ·obtain ⟨b',off',e,hb',hc'⟩:=HA.out j (by omega);simp only [Option.some.injEq,Addr.mk.injEq,and_true] at e;obtain ⟨rfl,rfl⟩:=e;obtain ⟨y,ey⟩:∃ y,y=xs[j]'(by omega):=⟨_,rfl⟩;have hy:=SA.out.get j (by omega);rw [<- ey] at hc' hy;have hstep:o*4294967296+y=ak (xs.drop j):=by
     have h1:=HO.out;rw [show ((j:Int)+1).toNat=j+1 from by omega] at h1;rw [cT xs j,<- h1,show xs.getD j 0=y from by rw [ey];simp [show j<xs.length from by omega]];omega
    have ho2:o<2147483648:=by
     have h2:=xQ xs (lo+1) j (by omega) (by omega) SA.out;have:=HD1.out;omega
    obtain ⟨P,hP⟩:∃ P:Nat,P=o*4294967296:=⟨_,rfl⟩;obtain ⟨M,hM⟩:∃ M:Nat,M=o*4294967296+y:=⟨_,rfl⟩;have hP2:(o:Int)*4294967296=(P:Int):=by omega
    have hPb:P<9223372036854775808:=by omega
    have hMb:M<9223372036854775808:=by omega
    have HOR:=ab (Cj o y ho2 hy);rw [<- hM] at HOR;rw [hP2] at HOR;rw [<- hM] at hstep;clear hP hM;have HS:=ab hstep;clear hstep ey;go_wp2;go_round
    case rel=>exact ⟨(j:Int)-1,M,by omega,by omega,by go_num,congrArg (Value.int .i64) HOR.out,by rw [show ((j:Int)-1+1).toNat=j from by omega];exact HS.out⟩
    case measure=>simp [intOf];omega
   ·obtain rfl:j=lo:=by omega
    have HO2:Hid (o=ak (xs.drop (j+1))):=by
     have h1:=HO.out;rw [show ((j:Int)+1).toNat=j+1 from by omega] at h1;exact h1
    obtain ⟨T,p,r,t1,t2,t3,t4,t5,t6,t7,t8,t9⟩:=zy s x o V hs32 (by rw [HO2.out];exact HV.out) F2.out (by rw [HV.out];exact HB.out);have T6:=ab t6;clear HB HD1 HO HO2 HV F2 HA SA t6;go_wp2;go_quiet (fail)
    go_wp2;go_ret;exact ⟨congrArg (fun z=>Ending.returned (Value.int .i64 z)) T6.out,_,by first | rfl | (simp only [World.drewN_drewN];rfl)⟩
 ·have hz:ak xs / 2^bit=0:=by
   apply Nat.div_eq_of_lt;have h1:=bD ha.sm;rw [ym] at h1;exact Nat.lt_of_lt_of_le h1 (Nat.pow_le_pow_right (by decide) (by omega))
  rw [hz];clear Ha ha hb hlo hs hbs hz;go_enter Tryz.func167,Tryz.ntmps167
  go_wp2;go_ret;exact ⟨rfl,0,rfl⟩
theorem zI {xs:List Nat} {L:Nat} (ht:Tr xs) (h:ak xs<4294967296^L):xs.length<=L:=by
 by_cases hx:xs=[]
 ·subst hx;simp
 ·have h1:=iZ ht hx;have h2:xs.length-1<L:=(Nat.pow_lt_pow_iff_right (a:=4294967296) (by decide)).1 (Nat.lt_of_le_of_lt h1 h);have:0<xs.length:=List.length_pos_iff.2 hx;omega
theorem aU.tight {w:World} {v:Value} {n L L':Nat} (h:aU w v n L) (hn:n<4294967296^L'):aU w v n L':=by
 obtain ⟨xs,h1,h2,h3,h4⟩:=h;exact ⟨xs,h1,h2,h3,zI h2 (by rw [h3];exact hn)⟩
theorem xT {w w1 w2:World} {r:Option Nat} (h:w.grownBy w1 none) (k:w1.grownBy w2 r) (hb:∀ b,r=some b->w.heap.size<=b):w.grownBy w2 none :=
 aq h k (fun _ _ e=>e) (fun b hb' e=>by have:=hb b e.symm;omega)
def lK (w wr:World) (xs ys:List Nat) (a b:Int) (k:Nat) (c:Int):Prop :=
 ∃ done:List Nat,done.length=k/\Sm done/\ch wr w.heap.size (done++List.replicate (xs.length-k) 0)/\w.grownBy wr none /\
  (ak done:Int)+(4294967296^k:Nat)*c=a*(ak (xs.take k):Nat)+b*(ak (ys.take k):Nat)
theorem cU (ys:List Nat) (k:Nat):ak (ys.take (k+1))=ak (ys.take k)+4294967296^k*ys.getD k 0:=by
 by_cases h:k<ys.length
 ·rw [ay ys k h];simp [h]
 ·rw [List.take_of_length_le (by omega),List.take_of_length_le (by omega)];simp [List.getD,h]
theorem Bg (D p c a b X x Y y t:Int) (h:D+p*c=a*X+b*Y) (ht:t=c+a*x+b*y):D+p*t=a*(X+p*x)+b*(Y+p*y):=by
 subst ht;have e1:a*(X+p*x)=a*X+p*(a*x):=by rw [Int.mul_add,Int.mul_left_comm]
 have e2:b*(Y+p*y)=b*Y+p*(b*y):=by rw [Int.mul_add,Int.mul_left_comm]
 rw [e1,e2,Int.mul_add,Int.mul_add];omega
theorem lK.step {w wr:World} {xs ys:List Nat} {a b c:Int} {k:Nat} (h:lK w wr xs ys a b k c) (hk:k<xs.length) (x y:Nat) (hx:x=xs[k]) (hy:y=ys.getD k 0) (t z:Int) (ht:t=c+a*x+b*y) (hz:z=t % 4294967296) :
  lK w (wr.setCell ⟨w.heap.size,k,none⟩ (.int .u32 z)) xs ys a b (k+1) (t / 4294967296):=by
 obtain ⟨done,h1,h2,h3,h4,h5⟩:=h;obtain ⟨r,hr⟩:∃ r:Nat,(r:Int)=t % 4294967296:=⟨(t % 4294967296).toNat,by omega⟩;have hrb:r<4294967296:=by omega
 refine ⟨done++[r],by simp [h1],h2.append (Sm.cons hrb Sm.nil),?_,ai h4 _ _ (Nat.le_refl _),?_⟩
 ·have:=h3.set k r;rw [hz,<- hr];have e:(done++List.replicate (xs.length-k) 0).set k r=(done++[r])++List.replicate (xs.length-(k+1)) 0:=by
   obtain ⟨m,hm⟩:∃ m,xs.length-k=m+1:=⟨xs.length-k-1,by omega⟩;rw [hm,show xs.length-(k+1)=m from by omega];subst h1;rw [List.set_append_right _ _ (Nat.le_refl _)];simp [List.replicate_succ]
  rw [e] at this;exact this
 ·rw [aO,h1,ay xs k hk,<- hx,cU ys k,<- hy];rw [Int.natCast_add,Int.natCast_add,Int.natCast_add,Int.natCast_mul,Int.natCast_mul,Int.natCast_mul,Nat.pow_succ,Int.natCast_mul];generalize ((4294967296^k:Nat):Int)=p at h5 ⊢;have e:=Bg _ p c a b _ (x:Int) _ (y:Int) t h5 ht;rw [<- e];have e2:t=r+4294967296*(t / 4294967296):=by omega
  generalize t / 4294967296=q at e2 ⊢;rw [e2,Int.mul_add,Int.mul_assoc];simp only [Int.add_assoc];rfl
theorem yp (a:Int) (x:Nat) (h1:-1073741824<a) (h2:a<1073741824) (hx:x<4294967296):-4611686014132420609<=a*(x:Int)/\a*(x:Int)<=4611686014132420609:=by
 have k1:a*(x:Int)<=1073741823*(x:Int):=Int.mul_le_mul_of_nonneg_right (by omega) (by omega);have k2:-1073741823*(x:Int)<=a*(x:Int):=Int.mul_le_mul_of_nonneg_right (by omega) (by omega);omega
def qK (w:World) (n L:Nat) (e:Ending) (w':World):Prop:=∃ v',e=.returned v'/\aU w' v' n L/\w.grownBy w' none/\bA w v'
theorem Bh {w wr:World} {xs ys:List Nat} {a b c u:Int} (h:lK w wr xs ys a b xs.length c) (hys:ys.length<=xs.length) (hu:u=a*(ak xs:Nat)+b*(ak ys:Nat)) (h0:0<=u) (h1:u<(4294967296^xs.length:Nat)) :
  ∃ done:List Nat,done.length=xs.length/\Sm done/\ch wr w.heap.size done/\w.grownBy wr none/\ak done=u.toNat:=by
 obtain ⟨done,k1,k2,k3,k4,k5⟩:=h;rw [Nat.sub_self,List.replicate_zero,List.append_nil] at k3;refine ⟨done,k1,k2,k3,k4,?_⟩;rw [List.take_of_length_le (Nat.le_refl _),List.take_of_length_le hys,<- hu] at k5;have hd:=bD k2;rw [k1] at hd;have hp:(0:Int)<(4294967296^xs.length:Nat):=by
  have:0<4294967296^xs.length:=Nat.pow_pos (by decide);omega
 generalize hP:(4294967296^xs.length:Nat)=P at *;have hc:c=0:=by
  rcases Int.lt_trichotomy c 0 with h | h | h
  ·have:=Int.mul_le_mul_of_nonneg_left (show c<=-1 by omega) (Int.le_of_lt hp);omega
  ·exact h
  ·have:=Int.mul_le_mul_of_nonneg_left (show 1<=c by omega) (Int.le_of_lt hp);omega
 rw [hc,Int.mul_zero] at k5;omega
def CombR (w:World) (xs ys:List Nat) (a b:Int) (cv iv:Value) (wr:World):Prop:=∃ (k:Nat) (c:Int),k<=xs.length/\-2147483648<=c/\c<=2147483648/\iv=.int .i64 k/\cv=.int .i64 c/\lK w wr xs ys a b k c
theorem oQ (va vb:Value) (xs ys:List Nat) (a b u:Int) (w:World) (ha:Ws w va xs) (hb:Ws w vb ys) (hys:ys.length<=xs.length) (a1:-1073741824<a) (a2:a<1073741824) (b1:-1073741824<b) (b2:b<1073741824) (hu:u=a*(ak xs:Nat)+b*(ak ys:Nat)) (h0:0<=u) (h1:u<=(ak xs:Nat)) (hl:xs.length<=10000000000000) :
  Calls Tryz.prog 166 #[va,vb,.int .i64 a,.int .i64 b] w fun e w'=>qK w u.toNat xs.length e w':=by
 obtain ⟨ao,ca,rfl,hca,hca',Ha⟩:=ha.open;obtain ⟨bo,cb,rfl,hcb,hcb',Hb⟩:=hb.open;unfold maxLen at hca' hcb';have HA:=ab Ha;have HB:=ab Hb;have SA:=ab ha.sm;have SB:=ab hb.sm;have HU:=ab hu;have H1:=ab h1;clear Ha ha Hb hb hu h1;go_enter Tryz.func166,Tryz.ntmps166
 go_wp2_with (at_make;refine aD _ rfl _ _ 89 rfl Tryz.underlying89 Tryz.info32 _ _ _ _ xs.length rfl rfl (by omega) (by omega) (by omega) ?_)
 intro w1 harr hgr;have HR:=ab harr;have HG:=ab hgr;clear harr hgr;go_wp2;go_loopw [10,18] (fun cv iv wr=>Hid (CombR w xs ys a b cv iv wr)) (fun _ iv _=>xs.length-(intOf iv).toNat)
 case atStart=>exact ⟨0,0,Nat.zero_le _,by omega,by omega,rfl,rfl,[],rfl,Sm.nil,by simpa using HR.out,HG.out,by simp [ak]⟩
 case round =>
  obtain ⟨k,c,hk,hc1,hc2,rfl,rfl,HI'⟩:=hrel.out;have HI:=ab HI';clear hrel HI';by_cases hlt:k<xs.length
  ·obtain ⟨b',off,rfl,hbl,hcell⟩:=aG HA k hlt;have hx:=(aG SA).get k hlt;obtain ⟨x,ex⟩:∃ x,x=xs[k]:=⟨_,rfl⟩;rw [<- ex] at hcell hx;have EX:=ab ex;clear ex;obtain ⟨done,h1,h2,h3,h4,h5⟩:=HI.out;have hcx:wr.cell? ⟨b',off+k,none⟩=some (.int .u32 (x:Nat)):=h4.cell hcell (by simp);have hf1:wr.frozen? ⟨w.heap.size,k,none⟩=false:=h3.free k;obtain ⟨v0,hc0⟩:∃ v,wr.cell? ⟨w.heap.size,k,none⟩=some v:=⟨_,h3.cell k (by simp [h1];omega)⟩;have hgw:=ab h4;clear h1 h2 h3 h4 h5 hcell;obtain ⟨p1,p2⟩:=yp a x a1 a2 hx;by_cases hlt2:k<ys.length
   ·obtain ⟨b2',off2,rfl,hbl2,hcell2⟩:=aG HB k hlt2;have hy:=(aG SB).get k hlt2;obtain ⟨y,ey⟩:∃ y,y=ys[k]:=⟨_,rfl⟩;rw [<- ey] at hcell2 hy;have EY:Hid (y=ys.getD k 0):=by rw [ey];show _=_;simp [hlt2]
    have hcy:wr.cell? ⟨b2',off2+k,none⟩=some (.int .u32 (y:Nat)):=hgw.out.cell hcell2 (by simp);clear ey hcell2;obtain ⟨p3,p4⟩:=yp b y b1 b2 hy;go_wp2;go_roundw
    case rel=>exact ⟨k+1,(c+a*x+b*y) / 4294967296,by omega,by omega,by omega,by go_num,by go_num,HI.out.step hlt x y EX.out EY.out _ _ rfl (by first | rfl | omega)⟩
    case measure=>simp [intOf];omega
   ·have EY:Hid ((0:Nat)=ys.getD k 0):=by show _=_;simp [List.getD,show ¬ k<ys.length from hlt2]
    go_wp2;go_roundw
    case rel=>exact ⟨k+1,(c+a*x) / 4294967296,by omega,by omega,by omega,by go_num,by go_num,HI.out.step hlt x 0 EX.out EY.out _ _ (by simp) (by first | rfl | omega)⟩
    case measure=>simp [intOf];omega
  ·obtain rfl:k=xs.length:=by omega
   have hlt':=bD SA.out;have hup:=H1.out;obtain ⟨done,e1,e2,e3,e4,e5⟩:=Bh HI.out hys HU.out h0 (by omega);have hw:=e3.ws e2 (by rw [e1];unfold maxLen;omega);rw [e1] at hw;have HW:=ab hw;have E1:=ab e1;have E4:=ab e4;have E5:=ab e5;clear e1 e2 e3 e4 e5 hw hlt' hup;go_wp2_with fail;refine (fA _ done _ HW.out).mono ?_;rintro e w2 ⟨v',rfl,rfl,k1,k2⟩;have K1:=ab k1;have K2:=ab k2;clear k1 k2;go_wp2;go_ret;refine ⟨v',rfl,?_,E4.out,?_⟩
   ·have:=K1.out;rw [E5.out,E1.out] at this;exact this
   ·intro j hj;rw [K2.out] at hj;simp [az] at hj;omega
structure iy (X Y P H N:Int) (a b c d hi nx:Int):Prop where
 hh:hi=a*H+b*N
 hn:nx=c*H+d*N
 sg:(0<=a/\b<=0/\c<=0/\0<=d)∨(a<=0/\0<=b/\0<=c/\d<=0)
 ha:-1073741824<a/\a<1073741824
 hb:-1073741824<b/\b<1073741824
 hc:-1073741824<c/\c<1073741824
 hd:-1073741824<d/\d<1073741824
 ra:0<=hi+a
 rb:0<=hi+b
 rc:0<=nx+c
 rd:0<=nx+d
 le:nx<=hi
 top:hi<=H
 g:Int.gcd (a*X+b*Y) (c*X+d*Y)=Int.gcd X Y
 v0:0<=c*X+d*Y
 vu:c*X+d*Y<=a*X+b*Y
 u0:0<a*X+b*Y
 ux:a*X+b*Y<=X
 vy:c*X+d*Y<=Y
 ds:d≠0
 bs:(a=1/\b=0/\c=0/\d=1)∨(b≠0/\c*X+d*Y<Y)
theorem iy.start {X Y P H N:Int} (hXY:Y<=X) (hY:0<Y) (hH:0<=N) (hN:N<=H):iy X Y P H N 1 0 0 1 H N:=by
 refine ⟨by simp,by simp,by simp,by decide,by decide,by decide,by decide,by omega,by omega,by omega,by omega,hN,by omega,by simp,by simp;omega,by simp;omega,by simp;omega,by simp,by simp,by decide,by simp⟩
theorem eK {P x t c d:Int} (hP:0<P) (hx:0<=x) (hx2:x<P) (ht:0<=t) (ht2:t<P) (hc:c<=0) (hd:0<=d):c*P<=c*x+d*t/\c*x+d*t<=d*P:=by
 have h1:c*P<=c*x:=Int.mul_le_mul_of_nonpos_left hc (by omega);have h2:0<=d*t:=Int.mul_nonneg hd ht;have h3:c*x<=0:=Int.mul_nonpos_of_nonpos_of_nonneg hc hx;have h4:d*t<=d*P:=Int.mul_le_mul_of_nonneg_left (by omega) hd;omega
theorem xH {X Y P H N x t c d nx:Int} (hX:X=H*P+x) (hY:Y=N*P+t) (hn:nx=c*H+d*N):c*X+d*Y=nx*P+(c*x+d*t):=by
 subst hX hY hn;simp only [Int.mul_add,Int.add_mul,Int.mul_assoc];omega
theorem BI (u v q:Int):Int.gcd v (u-q*v)=Int.gcd u v:=by
 rw [Int.gcd_comm u v];apply Nat.dvd_antisymm
 ·apply Int.dvd_gcd (Int.gcd_dvd_left ..) ;have h1:((Int.gcd v (u-q*v):Nat):Int)∣v:=Int.gcd_dvd_left ..;have h2:((Int.gcd v (u-q*v):Nat):Int)∣u-q*v:=Int.gcd_dvd_right ..;have h3:=Int.dvd_add h2 (Int.dvd_mul_of_dvd_right h1 (b:=q));rwa [Int.sub_add_cancel] at h3
 ·apply Int.dvd_gcd (Int.gcd_dvd_left ..);exact Int.dvd_sub (Int.gcd_dvd_right ..) (Int.dvd_mul_of_dvd_right (Int.gcd_dvd_left ..))
theorem iy.step {X Y P H N x t a b c d hi nx q:Int} (h:iy X Y P H N a b c d hi nx) (hP:0<P) (hx:0<=x) (hx2:x<P) (ht:0<=t) (ht2:t<P) (hX:X=H*P+x) (hY:Y=N*P+t) (hXY:Y<=X)
  (g1:nx+c≠0) (g2:nx+d≠0) (q1:q=(hi+a) / (nx+c)) (q2:q=(hi+b) / (nx+d))
  (hc':-1073741824<a-q*c/\a-q*c<1073741824) (hd':-1073741824<b-q*d/\b-q*d<1073741824) :
  iy X Y P H N c d (a-q*c) (b-q*d) nx (hi-q*nx)/\0<=hi-q*nx/\hi-q*nx<nx/\0<=q/\q*nx<=hi+1073741824:=by
 have p1:0<nx+c:=by have:=h.rc;omega
 have p2:0<nx+d:=by have:=h.rd;omega
 have q0:0<=q:=by rw [q1];exact Int.ediv_nonneg h.ra (by omega)
 have m1:q*(nx+c)+(hi+a) % (nx+c)=hi+a:=by
  have:=Int.mul_ediv_add_emod (hi+a) (nx+c);rw [<- q1,Int.mul_comm] at this;exact this
 have m2:q*(nx+d)+(hi+b) % (nx+d)=hi+b:=by
  have:=Int.mul_ediv_add_emod (hi+b) (nx+d);rw [<- q2,Int.mul_comm] at this;exact this
 have r1:=Int.emod_nonneg (hi+a) (Int.ne_of_gt p1);have r2:=Int.emod_nonneg (hi+b) (Int.ne_of_gt p2);have s1:=Int.emod_lt_of_pos (hi+a) p1;have s2:=Int.emod_lt_of_pos (hi+b) p2;rw [Int.mul_add] at m1 m2;generalize (hi+a) % (nx+c)=R1 at *;generalize (hi+b) % (nx+d)=R2 at *
 -- the new remainders
 have eU:a*X+b*Y=hi*P+(a*x+b*t):=xH hX hY h.hh;have eV:c*X+d*Y=nx*P+(c*x+d*t):=xH hX hY h.hn;have en:hi-q*nx=(a-q*c)*H+(b-q*d)*N:=by
  have h1:=h.hh;have h2:=h.hn;rw [h1,h2];simp only [Int.mul_add,Int.sub_mul,Int.mul_assoc];omega
 have eV':(a-q*c)*X+(b-q*d)*Y=(hi-q*nx)*P+((a-q*c)*x+(b-q*d)*t):=xH hX hY en;have eVV:(a-q*c)*X+(b-q*d)*Y=(a*X+b*Y)-q*(c*X+d*Y):=by
  simp only [Int.mul_add,Int.sub_mul,Int.mul_assoc];omega
 have sgn':(0<=c/\d<=0/\a-q*c<=0/\0<=b-q*d)∨(c<=0/\0<=d/\0<=a-q*c/\b-q*d<=0):=by
  rcases h.sg with ⟨a1,a2,a3,a4⟩ | ⟨a1,a2,a3,a4⟩
  ·right
   have:=Int.mul_nonpos_of_nonneg_of_nonpos q0 a3;have:=Int.mul_nonneg q0 a4;omega
  ·left
   have:=Int.mul_nonneg q0 a3;have:=Int.mul_nonpos_of_nonneg_of_nonpos q0 a4;omega
 have hnn:0<=hi-q*nx/\hi-q*nx<nx:=by omega
 have hqn:q*nx<=hi+1073741824:=by
  have:=h.ha;have:=h.hb;rcases h.sg with ⟨a1,a2,a3,a4⟩ | ⟨a1,a2,a3,a4⟩
  ·have:=Int.mul_nonneg q0 a4;omega
  ·have:=Int.mul_nonneg q0 a3;omega
 -- v is above 0,v' isn't below 0,v' is below v
 have hP1:P<=(nx+c)*P:=by
  have:=Int.mul_le_mul_of_nonneg_right (show 1<=nx+c by omega) (Int.le_of_lt hP);omega
 have hP2:P<=(nx+d)*P:=by
  have:=Int.mul_le_mul_of_nonneg_right (show 1<=nx+d by omega) (Int.le_of_lt hP);omega
 have hv:0<c*X+d*Y:=by
  rw [eV];rcases h.sg with ⟨a1,a2,a3,a4⟩ | ⟨a1,a2,a3,a4⟩
  ·have:=(eK hP hx hx2 ht ht2 a3 a4).1;rw [Int.add_mul] at hP1;omega
  ·have:=(eK hP ht ht2 hx hx2 a4 a3).1;rw [Int.add_mul] at hP2;omega
 have e1:0<=(hi-q*nx+(a-q*c))*P:=Int.mul_nonneg (by omega) (Int.le_of_lt hP);have e2:0<=(hi-q*nx+(b-q*d))*P:=Int.mul_nonneg (by omega) (Int.le_of_lt hP);have hv0:0<=(a-q*c)*X+(b-q*d)*Y:=by
  rw [eV'];rcases sgn' with ⟨a1,a2,a3,a4⟩ | ⟨a1,a2,a3,a4⟩
  ·have:=(eK hP hx hx2 ht ht2 a3 a4).1;rw [Int.add_mul] at e1;omega
  ·have:=(eK hP ht ht2 hx hx2 a4 a3).1;rw [Int.add_mul] at e2;omega
 have f1:P<=(nx+c-(hi-q*nx+(a-q*c)))*P:=by
  have:=Int.mul_le_mul_of_nonneg_right (show 1<=nx+c-(hi-q*nx+(a-q*c)) by omega) (Int.le_of_lt hP);omega
 have f2:P<=(nx+d-(hi-q*nx+(b-q*d)))*P:=by
  have:=Int.mul_le_mul_of_nonneg_right (show 1<=nx+d-(hi-q*nx+(b-q*d)) by omega) (Int.le_of_lt hP);omega
 have hlt:(a-q*c)*X+(b-q*d)*Y<c*X+d*Y:=by
  rw [eV',eV];rw [Int.sub_mul,Int.add_mul,Int.add_mul] at f1 f2;rcases sgn' with ⟨a1,a2,a3,a4⟩ | ⟨a1,a2,a3,a4⟩
  ·have k1:=(eK hP ht ht2 hx hx2 a2 a1).1;have k2:=(eK hP hx hx2 ht ht2 a3 a4).2;omega
  ·have k1:=(eK hP hx hx2 ht ht2 a1 a2).1;have k2:=(eK hP ht ht2 hx hx2 a4 a3).2;omega
 have hds:b-q*d≠0:=by
  have hd0:=h.ds;rcases h.bs with ⟨ea,eb,ec,ed⟩ | ⟨hb0,_⟩
  ·subst ea eb ec ed;have hle:=h.le;have:q≠0:=by
    intro e;rw [e] at m1;omega
   omega
  ·rcases h.sg with ⟨a1,a2,a3,a4⟩ | ⟨a1,a2,a3,a4⟩
   ·have:=Int.mul_nonneg q0 a4;omega
   ·have:=Int.mul_nonpos_of_nonneg_of_nonpos q0 a4;omega
 refine ⟨⟨h.hn,en,?_,h.hc,h.hd,hc',hd',h.rc,h.rd,by omega,by omega,by omega,by have:=h.top;have:=h.le;omega,?_,hv0,Int.le_of_lt hlt,hv,?_,?_,hds,.inr ⟨h.ds,?_⟩⟩,hnn.1,hnn.2,q0,hqn⟩
 ·omega
 ·rw [eVV,BI];exact h.g
 ·have:=h.vy;omega
 ·have:=h.vy;omega
 ·have:=h.vy;omega
end Go.Proofs.YthblidglcppakaaGreatDoor
