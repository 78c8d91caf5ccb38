/- Contracts that the proof leans on. -/
import Derived.Test.YthblidglcppakaaGreatDoorXMBase
import Derived.Test.YthblidglcppakaaGreatDoorXMFb
import Derived.Test.YthblidglcppakaaGreatDoorXMFc
namespace Go.Proofs.YthblidglcppakaaGreatDoor
open Go.RowKit
set_option linter.unusedVariables false
set_option linter.unusedSimpArgs false
set_option maxHeartbeats 8000000
set_option maxRecDepth 10000
def jK (b1:Bool) (m:Nat) (b2:Bool) (n:Nat):Bool:=if b1=b2 then b1 else if m<n then b2 else b1 && decide (0<m-n)
def iI (b1:Bool) (m:Nat) (b2:Bool) (n:Nat):Nat:=if b1=b2 then m+n else if m<n then n-m else m-n
theorem yD (b1:Bool) (m:Nat) (b2:Bool) (n:Nat):fO (jK b1 m b2 n) (iI b1 m b2 n)=fO b1 m+fO b2 n:=by
 unfold jK iI fO;by_cases h:b1=b2
 ·subst h;rw [if_pos rfl,if_pos rfl];cases b1<;>simp<;>omega
 ·rw [if_neg h,if_neg h];by_cases hl:m<n
  ·rw [if_pos hl,if_pos hl];cases b1<;>cases b2<;>simp_all<;>omega
  ·rw [if_neg hl,if_neg hl];by_cases h0:0<m-n
   ·cases b1<;>cases b2<;>simp_all<;>omega
   ·have:m=n:=by omega
    subst this;cases b1<;>cases b2<;>simp_all<;>omega
theorem yC (b1:Bool) (m:Nat) (b2:Bool) (n:Nat) (h1:b1=true->0<m) (h2:b2=true->0<n):jK b1 m b2 n=true->0<iI b1 m b2 n:=by
 unfold jK iI;by_cases h:b1=b2
 ·subst h;rw [if_pos rfl,if_pos rfl];intro hb;have:=h1 hb;omega
 ·rw [if_neg h,if_neg h];by_cases hl:m<n
  ·rw [if_pos hl,if_pos hl];intro _;omega
  ·rw [if_neg hl,if_neg hl];simp
theorem sO {k:Nat} (b1:Bool) (m:Nat) (b2:Bool) (n:Nat) (h:k∣iI b1 m b2 n) (hn:k∣n):k∣m:=by
 unfold iI at h;by_cases e:b1=b2
 ·rw [if_pos e] at h;exact (Nat.dvd_add_left hn).1 h
 ·rw [if_neg e] at h;by_cases hl:m<n
  ·rw [if_pos hl] at h;have:m=n-(n-m):=by omega
   rw [this];exact Nat.dvd_sub hn h
  ·rw [if_neg hl] at h;have:m=(m-n)+n:=by omega
   rw [this];exact Nat.dvd_add h hn
theorem qG {k:Nat} (b1:Bool) (m:Nat) (b2:Bool) (n:Nat) (h:k∣iI b1 m b2 n) (hm:k∣m):k∣n:=by
 unfold iI at h;by_cases e:b1=b2
 ·rw [if_pos e] at h;exact (Nat.dvd_add_right hm).1 h
 ·rw [if_neg e] at h;by_cases hl:m<n
  ·rw [if_pos hl] at h;have:n=(n-m)+m:=by omega
   rw [this];exact Nat.dvd_add h hm
  ·rw [if_neg hl] at h;have:n=m-(m-n):=by omega
   rw [this];exact Nat.dvd_sub hm h
def jC (b1:Bool) (n1 d1:Nat) (b2:Bool) (n2 d2:Nat):Nat:=iI b1 (n1*(d2 / Nat.gcd d1 d2)) b2 (n2*(d1 / Nat.gcd d1 d2))
def Co (b1:Bool) (n1 d1:Nat) (b2:Bool) (n2 d2:Nat):Bool:=jK b1 (n1*(d2 / Nat.gcd d1 d2)) b2 (n2*(d1 / Nat.gcd d1 d2))
theorem uI (b1 b2:Bool) {n1 d1 n2 d2:Nat} (h1:Nat.gcd n1 d1=1) (h2:Nat.gcd n2 d2=1) (p1:0<d1) (p2:0<d2) :
  0<d1 / Nat.gcd d1 d2*(d2 / Nat.gcd (jC b1 n1 d1 b2 n2 d2) (Nat.gcd d1 d2))
  /\ Nat.gcd (jC b1 n1 d1 b2 n2 d2 / Nat.gcd (jC b1 n1 d1 b2 n2 d2) (Nat.gcd d1 d2)) (d1 / Nat.gcd d1 d2*(d2 / Nat.gcd (jC b1 n1 d1 b2 n2 d2) (Nat.gcd d1 d2)))=1:=by
 obtain ⟨T,eT⟩:∃ T,T=jC b1 n1 d1 b2 n2 d2:=⟨_,rfl⟩;obtain ⟨G,eG⟩:∃ G,G=Nat.gcd d1 d2:=⟨_,rfl⟩;obtain ⟨x,ex⟩:∃ x,x=d1 / G:=⟨_,rfl⟩;obtain ⟨y,ey⟩:∃ y,y=d2 / G:=⟨_,rfl⟩;have hG:0<G:=by rw [eG];exact Nat.gcd_pos_of_pos_left _ p1
 have e1:d1=G*x:=by rw [ex,eG];exact (Nat.mul_div_cancel' (Nat.gcd_dvd_left d1 d2)).symm
 have e2:d2=G*y:=by rw [ey,eG];exact (Nat.mul_div_cancel' (Nat.gcd_dvd_right d1 d2)).symm
 have hxy:Nat.Coprime x y:=by rw [ex,ey,eG];exact Nat.coprime_div_gcd_div_gcd (by rw [<- eG];exact hG)
 have hT:T=iI b1 (n1*y) b2 (n2*x):=by rw [eT,ex,ey,eG];rfl
 rw [<- eT,<- eG,<- ex];obtain ⟨H,eH⟩:∃ H,H=Nat.gcd T G:=⟨_,rfl⟩;rw [<- eH];have hH:0<H:=by rw [eH];exact Nat.gcd_pos_of_pos_right _ hG
 have hHG:H∣G:=by rw [eH];exact Nat.gcd_dvd_right _ _
 have hHT:H∣T:=by rw [eH];exact Nat.gcd_dvd_left _ _
 have e3:d2 / H=G / H*y:=by rw [e2,Nat.mul_comm,Nat.mul_div_assoc _ hHG,Nat.mul_comm]
 have px:0<x:=by
  rcases Nat.eq_zero_or_pos x with h | h
  ·rw [h,Nat.mul_zero] at e1;omega
  ·exact h
 have py:0<y:=by
  rcases Nat.eq_zero_or_pos y with h | h
  ·rw [h,Nat.mul_zero] at e2;omega
  ·exact h
 have cx:Nat.Coprime T x:=by
  have k1:Nat.gcd T x∣T:=Nat.gcd_dvd_left _ _;have k2:Nat.gcd T x∣x:=Nat.gcd_dvd_right _ _;have k3:Nat.gcd T x∣n1*y:=sO b1 _ b2 _ (by rw [<- hT];exact k1) (Nat.dvd_trans k2 (Nat.dvd_mul_left _ _));have k4:Nat.Coprime (Nat.gcd T x) y:=Nat.Coprime.coprime_dvd_left k2 hxy;have k5:Nat.gcd T x∣n1:=Nat.Coprime.dvd_of_dvd_mul_right k4 k3;have k6:Nat.gcd T x∣Nat.gcd n1 d1:=Nat.dvd_gcd k5 (Nat.dvd_trans k2 (by rw [e1];exact Nat.dvd_mul_left _ _));rw [h1] at k6;exact Nat.dvd_one.1 k6
 have cy:Nat.Coprime T y:=by
  have k1:Nat.gcd T y∣T:=Nat.gcd_dvd_left _ _;have k2:Nat.gcd T y∣y:=Nat.gcd_dvd_right _ _;have k3:Nat.gcd T y∣n2*x:=qG b1 _ b2 _ (by rw [<- hT];exact k1) (Nat.dvd_trans k2 (Nat.dvd_mul_left _ _));have k4:Nat.Coprime (Nat.gcd T y) x:=Nat.Coprime.coprime_dvd_left k2 hxy.symm;have k5:Nat.gcd T y∣n2:=Nat.Coprime.dvd_of_dvd_mul_right k4 k3;have k6:Nat.gcd T y∣Nat.gcd n2 d2:=Nat.dvd_gcd k5 (Nat.dvd_trans k2 (by rw [e2];exact Nat.dvd_mul_left _ _));rw [h2] at k6;exact Nat.dvd_one.1 k6
 have dT:T / H∣T:=Nat.div_dvd_of_dvd hHT;have c1:Nat.Coprime (T / H) x:=Nat.Coprime.coprime_dvd_left dT cx;have c2:Nat.Coprime (T / H) y:=Nat.Coprime.coprime_dvd_left dT cy;have c3:Nat.Coprime (T / H) (G / H):=by
  have hh:0<Nat.gcd T G:=by rw [<- eH];exact hH
  have:=Nat.coprime_div_gcd_div_gcd hh;rw [<- eH] at this;exact this
 rw [e3];refine ⟨Nat.mul_pos px (Nat.mul_pos (Nat.div_pos (Nat.le_of_dvd hG hHG) hH) py),?_⟩;exact Nat.Coprime.mul_right c1 (Nat.Coprime.mul_right c3 c2)
theorem yk (p q:Rat) :
  mkRat (fO (Co (rB p) (rN p) p.den (rB q) (rN q) q.den) (jC (rB p) (rN p) p.den (rB q) (rN q) q.den / Nat.gcd (jC (rB p) (rN p) p.den (rB q) (rN q) q.den) (Nat.gcd p.den q.den)))
   (p.den / Nat.gcd p.den q.den*(q.den / Nat.gcd (jC (rB p) (rN p) p.den (rB q) (rN q) q.den) (Nat.gcd p.den q.den)))=p+q:=by
 obtain ⟨T,eT⟩:∃ T,T=jC (rB p) (rN p) p.den (rB q) (rN q) q.den:=⟨_,rfl⟩;obtain ⟨B,eB⟩:∃ T,T=Co (rB p) (rN p) p.den (rB q) (rN q) q.den:=⟨_,rfl⟩;obtain ⟨G,eG⟩:∃ G,G=Nat.gcd p.den q.den:=⟨_,rfl⟩;have p1:0<p.den:=p.den_pos;have hG:0<G:=by rw [eG];exact Nat.gcd_pos_of_pos_left _ p1
 have e1:G*(p.den / G)=p.den:=by rw [eG];exact Nat.mul_div_cancel' (Nat.gcd_dvd_left _ _)
 have e2:G*(q.den / G)=q.den:=by rw [eG];exact Nat.mul_div_cancel' (Nat.gcd_dvd_right _ _)
 have hs:fO B T=fO (rB p) (rN p*(q.den / G))+fO (rB q) (rN q*(p.den / G)):=by
  rw [eB,eT,eG];exact yD _ _ _ _
 rw [<- eT,<- eB,<- eG];obtain ⟨H,eH⟩:∃ H,H=Nat.gcd T G:=⟨_,rfl⟩;rw [<- eH];have hH:0<H:=by rw [eH];exact Nat.gcd_pos_of_pos_right _ hG
 have hHG:H∣G:=by rw [eH];exact Nat.gcd_dvd_right _ _
 have hHT:H∣T:=by rw [eH];exact Nat.gcd_dvd_left _ _
 have hHd:H∣q.den:=Nat.dvd_trans hHG (by rw [eG];exact Nat.gcd_dvd_right _ _);rw [<- Rat.mkRat_mul_left (a:=G*H) (by have:=Nat.mul_pos hG hH;omega),Rat.add_def'];have hT2:T / H*H=T:=Nat.div_mul_cancel hHT;have hd2:q.den / H*H=q.den:=Nat.div_mul_cancel hHd;congr 1
 ·have:((G*H:Nat):Int)*fO B (T / H)=fO B T*(G:Nat):=by
   rw [<- hT2,iq B (T / H) H,Int.natCast_mul,hT2];grind
  rw [this,hs,iq,iq,fN,fN];have f1:((q.den:Nat):Int)=(G:Nat)*((q.den / G:Nat):Int):=by rw [<- Int.natCast_mul,e2]
  have f2:((p.den:Nat):Int)=(G:Nat)*((p.den / G:Nat):Int):=by rw [<- Int.natCast_mul,e1]
  rw [f1];conv=>rhs;rw [f2]
  have f3:q.den / G=q.den / G:=rfl;have g1:G*(q.den / G) / G=q.den / G:=by rw [Nat.mul_div_cancel_left _ hG]
  grind
 ·calc G*H*(p.den / G*(q.den / H))=(G*(p.den / G))*(q.den / H*H):=by ac_rfl
   _=p.den*q.den:=by rw [e1,hd2]
def n7 (w wr:World) (xs ys:List Nat) (k c:Nat):Prop :=
 ∃ done:List Nat,done.length=k/\Sm done/\ch wr w.heap.size (done++List.replicate (xs.length+1-k) 0)/\w.grownBy wr none/\ak done+4294967296^k*c=ak (xs.take k)+ak (ys.take k)
theorem Cp (p c x y V X Y t q r:Nat) (h:V+p*c=X+Y) (ht:t=c+x+y) (hr:t=r+4294967296*q):V+p*r+p*4294967296*q=X+p*x+(Y+p*y):=by
 have e:p*t=p*r+p*4294967296*q:=by rw [hr,Nat.mul_add,Nat.mul_assoc]
 have e2:p*t=p*c+p*x+p*y:=by rw [ht,Nat.mul_add,Nat.mul_add]
 omega
theorem n7.step {w wr:World} {xs ys:List Nat} {k c:Nat} (h:n7 w wr xs ys k c) (hk:k<xs.length) (x y:Nat) (hx:x=xs[k]) (hy:y=ys.getD k 0) (t:Nat) (z:Int) (ht:t=c+x+y) (hz:z=((t % 4294967296:Nat):Int)) :
  n7 w (wr.setCell ⟨w.heap.size,k,none⟩ (.int .u32 z)) xs ys (k+1) (t / 4294967296):=by
 obtain ⟨done,h1,h2,h3,h4,h5⟩:=h;refine ⟨done++[t % 4294967296],by simp [h1],h2.append (Sm.cons (Nat.mod_lt _ (by decide)) Sm.nil),?_,ai h4 _ _ (Nat.le_refl _),?_⟩
 ·have:=h3.set k (t % 4294967296);rw [dR _ _ _ _ h1 (by omega)] at this;rw [hz,show xs.length+1-(k+1)=xs.length+1-k-1 from by omega];exact this
 ·rw [aO,h1,ay xs k hk,<- hx,cU ys k,<- hy,Nat.pow_succ];have e:t=t % 4294967296+4294967296*(t / 4294967296):=by omega
  exact Cp _ c x y _ _ _ t _ _ h5 ht e
def PlusR (w:World) (xs ys:List Nat) (cv iv:Value) (wr:World):Prop:=∃ k c:Nat,k<=xs.length/\c<=1/\iv=.int .i64 k/\cv=.int .u64 (c:Nat)/\n7 w wr xs ys k c
theorem Aj (va vb:Value) (xs ys:List Nat) (w:World) (ha:Ws w va xs) (hb:Ws w vb ys) (hle:ys.length<=xs.length) (hl:xs.length<=10000000000000) :
  Calls Tryz.prog 162 #[va,vb] w fun e w'=>qK w (ak xs+ak ys) (xs.length+1) e w':=by
 obtain ⟨ao,ca,rfl,hca,hca',Ha⟩:=ha.open;obtain ⟨bo,cb,rfl,hcb,hcb',Hb⟩:=hb.open;unfold maxLen at hca' hcb';have HA:=ab Ha;have HB:=ab Hb;have SA:=ab ha.sm;have SB:=ab hb.sm;clear Ha ha Hb hb;go_enter Tryz.func162,Tryz.ntmps162
 go_wp2_with (at_make;refine aD _ rfl _ _ 89 rfl Tryz.underlying89 Tryz.info32 _ _ _ _ (xs.length+1) rfl rfl (by omega) (by omega) (by omega) ?_)
 intro w1 harr hgr;have HR:=ab harr;have HG:=ab hgr;clear harr hgr;go_wp2;go_loopw [6,22] (fun cv iv wr=>Hid (PlusR w xs ys cv iv wr)) (fun _ iv _=>xs.length-(intOf iv).toNat)
 case atStart=>exact ⟨0,0,Nat.zero_le _,by omega,rfl,rfl,[],rfl,Sm.nil,by simpa using HR.out,HG.out,by simp [ak]⟩
 case round =>
  obtain ⟨k,c,hk,hc,rfl,rfl,HI'⟩:=hrel.out;have HI:=ab HI';clear hrel HI';by_cases hlt:k<xs.length
  ·obtain ⟨b',off,rfl,hbl,hcell⟩:=aG HA k hlt;have hx:=(aG SA).get k hlt;obtain ⟨x,ex⟩:∃ x,x=xs[k]:=⟨_,rfl⟩;rw [<- ex] at hcell hx;have EX:=ab ex;clear ex;obtain ⟨done,h1,h2,h3,h4,h5⟩:=HI.out;have hcx:wr.cell? ⟨b',off+k,none⟩=some (.int .u32 (x:Nat)):=h4.cell hcell (by simp);have hf1:wr.frozen? ⟨w.heap.size,k,none⟩=false:=h3.free k;obtain ⟨v0,hc0⟩:∃ v,wr.cell? ⟨w.heap.size,k,none⟩=some v:=⟨_,h3.cell k (by simp [h1];omega)⟩;have hgw:=ab h4;clear h1 h2 h3 h4 h5 hcell;by_cases hlt2:k<ys.length
   ·obtain ⟨b2',off2,rfl,hbl2,hcell2⟩:=aG HB k hlt2;have hy:=(aG SB).get k hlt2;obtain ⟨y,ey⟩:∃ y,y=ys[k]:=⟨_,rfl⟩;rw [<- ey] at hcell2 hy;have EY:Hid (y=ys.getD k 0):=by rw [ey];show _=_;simp [hlt2]
    have hcy:wr.cell? ⟨b2',off2+k,none⟩=some (.int .u32 (y:Nat)):=hgw.out.cell hcell2 (by simp);clear ey hcell2;go_wp2;go_roundw
    case rel=>exact ⟨k+1,(c+x+y) / 4294967296,by omega,by omega,by go_num,by go_num,HI.out.step hlt x y EX.out EY.out _ _ rfl (by omega)⟩
    case measure=>simp [intOf];omega
   ·have EY:Hid ((0:Nat)=ys.getD k 0):=by show _=_;simp [List.getD,show ¬ k<ys.length from hlt2]
    go_wp2;go_roundw
    case rel=>exact ⟨k+1,(c+x) / 4294967296,by omega,by omega,by go_num,by go_num,HI.out.step hlt x 0 EX.out EY.out _ _ (by simp) (by omega)⟩
    case measure=>simp [intOf];omega
  ·obtain rfl:k=xs.length:=by omega
   obtain ⟨done,h1,h2,h3,h4,h5⟩:=HI.out;have hf1:wr.frozen? ⟨w.heap.size,xs.length,none⟩=false:=h3.free _;obtain ⟨v0,hc0⟩:∃ v,wr.cell? ⟨w.heap.size,xs.length,none⟩=some v:=⟨_,h3.cell xs.length (by simp [h1])⟩;have hset:=h3.set xs.length c;rw [dR _ _ _ _ h1 (by omega),show xs.length+1-xs.length-1=0 from by omega,List.replicate_zero,List.append_nil] at hset;have hw:=hset.ws (h2.append (Sm.cons (by omega) Sm.nil)) (by simp [h1];unfold maxLen;omega);rw [show (done++[c]).length=xs.length+1 from by simp [h1]] at hw;have HW:=ab hw;have HV:Hid (ak (done++[c])=ak xs+ak ys):=by
    show _=_
    rw [aO,h1,h5,List.take_of_length_le (Nat.le_refl _),List.take_of_length_le hle]
   have HLN:Hid ((done++[c]).length=xs.length+1):=by show _=_;simp [h1]
   have H4:=ab (ai h4 ⟨w.heap.size,xs.length,none⟩ (.int .u32 (c:Nat)) (Nat.le_refl _));clear h1 h2 h3 h4 h5 hset hw;go_wp2_with fail;refine (fA _ (done++[c]) _ HW.out).mono ?_;rintro e w2 ⟨v',rfl,rfl,k1,k2⟩;have K1:=ab k1;have K2:=ab k2;clear k1 k2;go_wp2;go_ret;refine ⟨v',rfl,?_,H4.out,?_⟩
   ·have:=K1.out;rw [HV.out,HLN.out] at this;exact this
   ·intro j hj;rw [K2.out] at hj;simp [az] at hj;omega
theorem xj (va vb:Value) (xs ys:List Nat) (w:World) (ha:Ws w va xs) (hb:Ws w vb ys) (hle:ys.length<xs.length) (hl:xs.length<=10000000000000) :
  Calls Tryz.prog 162 #[vb,va] w fun e w'=>qK w (ak xs+ak ys) (xs.length+1) e w':=by
 obtain ⟨ao,ca,rfl,hca,hca',Ha⟩:=ha.open;obtain ⟨bo,cb,rfl,hcb,hcb',Hb⟩:=hb.open;unfold maxLen at hca' hcb';have HA:=ab Ha;have HB:=ab Hb;have SA:=ab ha.sm;have SB:=ab hb.sm;clear Ha ha Hb hb;go_enter Tryz.func162,Tryz.ntmps162
 go_wp2_with (at_make;refine aD _ rfl _ _ 89 rfl Tryz.underlying89 Tryz.info32 _ _ _ _ (xs.length+1) rfl rfl (by omega) (by omega) (by omega) ?_)
 intro w1 harr hgr;have HR:=ab harr;have HG:=ab hgr;clear harr hgr;go_wp2;go_loopw [6,22] (fun cv iv wr=>Hid (PlusR w xs ys cv iv wr)) (fun _ iv _=>xs.length-(intOf iv).toNat)
 case atStart=>exact ⟨0,0,Nat.zero_le _,by omega,rfl,rfl,[],rfl,Sm.nil,by simpa using HR.out,HG.out,by simp [ak]⟩
 case round =>
  obtain ⟨k,c,hk,hc,rfl,rfl,HI'⟩:=hrel.out;have HI:=ab HI';clear hrel HI';by_cases hlt:k<xs.length
  ·obtain ⟨b',off,rfl,hbl,hcell⟩:=aG HA k hlt;have hx:=(aG SA).get k hlt;obtain ⟨x,ex⟩:∃ x,x=xs[k]:=⟨_,rfl⟩;rw [<- ex] at hcell hx;have EX:=ab ex;clear ex;obtain ⟨done,h1,h2,h3,h4,h5⟩:=HI.out;have hcx:wr.cell? ⟨b',off+k,none⟩=some (.int .u32 (x:Nat)):=h4.cell hcell (by simp);have hf1:wr.frozen? ⟨w.heap.size,k,none⟩=false:=h3.free k;obtain ⟨v0,hc0⟩:∃ v,wr.cell? ⟨w.heap.size,k,none⟩=some v:=⟨_,h3.cell k (by simp [h1];omega)⟩;have hgw:=ab h4;clear h1 h2 h3 h4 h5 hcell;by_cases hlt2:k<ys.length
   ·obtain ⟨b2',off2,rfl,hbl2,hcell2⟩:=aG HB k hlt2;have hy:=(aG SB).get k hlt2;obtain ⟨y,ey⟩:∃ y,y=ys[k]:=⟨_,rfl⟩;rw [<- ey] at hcell2 hy;have EY:Hid (y=ys.getD k 0):=by rw [ey];show _=_;simp [hlt2]
    have hcy:wr.cell? ⟨b2',off2+k,none⟩=some (.int .u32 (y:Nat)):=hgw.out.cell hcell2 (by simp);clear ey hcell2;go_wp2;go_roundw
    case rel=>exact ⟨k+1,(c+x+y) / 4294967296,by omega,by omega,by go_num,by go_num,HI.out.step hlt x y EX.out EY.out _ _ rfl (by omega)⟩
    case measure=>simp [intOf];omega
   ·have EY:Hid ((0:Nat)=ys.getD k 0):=by show _=_;simp [List.getD,show ¬ k<ys.length from hlt2]
    go_wp2;go_roundw
    case rel=>exact ⟨k+1,(c+x) / 4294967296,by omega,by omega,by go_num,by go_num,HI.out.step hlt x 0 EX.out EY.out _ _ (by simp) (by omega)⟩
    case measure=>simp [intOf];omega
  ·obtain rfl:k=xs.length:=by omega
   obtain ⟨done,h1,h2,h3,h4,h5⟩:=HI.out;have hf1:wr.frozen? ⟨w.heap.size,xs.length,none⟩=false:=h3.free _;obtain ⟨v0,hc0⟩:∃ v,wr.cell? ⟨w.heap.size,xs.length,none⟩=some v:=⟨_,h3.cell xs.length (by simp [h1])⟩;have hset:=h3.set xs.length c;rw [dR _ _ _ _ h1 (by omega),show xs.length+1-xs.length-1=0 from by omega,List.replicate_zero,List.append_nil] at hset;have hw:=hset.ws (h2.append (Sm.cons (by omega) Sm.nil)) (by simp [h1];unfold maxLen;omega);rw [show (done++[c]).length=xs.length+1 from by simp [h1]] at hw;have HW:=ab hw;have HV:Hid (ak (done++[c])=ak xs+ak ys):=by
    show _=_
    rw [aO,h1,h5,List.take_of_length_le (Nat.le_refl _),List.take_of_length_le (Nat.le_of_lt hle)]
   have HLN:Hid ((done++[c]).length=xs.length+1):=by show _=_;simp [h1]
   have H4:=ab (ai h4 ⟨w.heap.size,xs.length,none⟩ (.int .u32 (c:Nat)) (Nat.le_refl _));clear h1 h2 h3 h4 h5 hset hw;go_wp2_with fail;refine (fA _ (done++[c]) _ HW.out).mono ?_;rintro e w2 ⟨v',rfl,rfl,k1,k2⟩;have K1:=ab k1;have K2:=ab k2;clear k1 k2;go_wp2;go_ret;refine ⟨v',rfl,?_,H4.out,?_⟩
   ·have:=K1.out;rw [HV.out,HLN.out] at this;exact this
   ·intro j hj;rw [K2.out] at hj;simp [az] at hj;omega
theorem Cq (va vb:Value) (m n L M:Nat) (w:World) (ha:aU w va m L) (hb:aU w vb n M) (hl:L+M<=10000000000000) :
  Calls Tryz.prog 162 #[va,vb] w fun e w'=>qK w (m+n) (max L M+1) e w':=by
 obtain ⟨xs,x1,x2,x3,x4⟩:=ha;obtain ⟨ys,y1,y2,y3,y4⟩:=hb;by_cases h:ys.length<=xs.length
 ·refine (Aj va vb xs ys w x1 y1 h (by omega)).mono ?_;rintro e w' ⟨v',rfl,k1,k2,k3⟩;rw [x3,y3] at k1;exact ⟨v',rfl,k1.mono (by omega),k2,k3⟩
 ·refine (xj vb va ys xs w y1 x1 (by omega) (by omega)).mono ?_;rintro e w' ⟨v',rfl,k1,k2,k3⟩;rw [x3,y3,Nat.add_comm] at k1;exact ⟨v',rfl,k1.mono (by omega),k2,k3⟩
def MinusR (w:World) (v:Value) (xs ys:List Nat) (ov iv:Value) (wr:World):Prop :=
 ∃ (k o:Nat) (done:List Nat),k<=xs.length/\o<=1/\iv=.int .i64 k/\ov=.int .u32 (o:Nat)/\done.length=k/\Sm done/\gB wr w.heap.size v (done++xs.drop k)/\w.grownBy wr none/\ak done+ak (ys.take k)=ak (xs.take k)+4294967296^k*o
theorem jk (x t:Nat) (hx:x<4294967296) (ht:t<=4294967296) :
  ∃ r:Nat,IntKind.u32.wrap ((x:Int)-(t:Int) % 4294967296)=(r:Int)/\r<4294967296/\((x<t->r+t=x+4294967296)/\(¬ x<t->r+t=x)):=by
 rw [IntKind.wrap_u32];refine ⟨(((x:Int)-(t:Int) % 4294967296) % 4294967296).toNat,by omega,by omega,?_,?_⟩<;>intro h<;>omega
theorem iQ (p V Y X y x r t o o':Nat) (h:V+Y=X+p*o) (ht:t=o+y) (hr:r+t=x+4294967296*o'):V+p*r+(Y+p*y)=X+p*x+p*4294967296*o':=by
 have e:p*r+p*t=p*x+p*4294967296*o':=by rw [<- Nat.mul_add,hr,Nat.mul_add,Nat.mul_assoc]
 have e2:p*t=p*o+p*y:=by rw [ht,Nat.mul_add]
 omega
theorem zU (done xs:List Nat) (k r:Nat) (h1:done.length=k) (hk:k<xs.length):(done++xs.drop k).set k r=(done++[r])++xs.drop (k+1):=by
 rw [List.set_append_right _ _ (by omega),h1,Nat.sub_self,List.drop_eq_getElem_cons hk,List.set_cons_zero,List.append_assoc];rfl
theorem zT (done xs:List Nat) (k:Nat) (h1:done.length=k) (hk:k<xs.length) (h:k<(done++xs.drop k).length):(done++xs.drop k)[k]=xs[k]:=by
 rw [List.getElem_append_right (by omega)];simp [h1]
theorem B9 (va vb:Value) (xs ys:List Nat) (w:World) (ha:Ws w va xs) (hb:Ws w vb ys) (hlen:ys.length<=xs.length) (hle:ak ys<=ak xs) (hl:xs.length<=10000000000000) :
  Calls Tryz.prog 164 #[va,vb] w fun e w'=>qK w (ak xs-ak ys) xs.length e w':=by
 obtain ⟨ao,ca,rfl,hca,hca',Ha⟩:=ha.open;obtain ⟨bo,cb,rfl,hcb,hcb',Hb⟩:=hb.open;unfold maxLen at hca' hcb';have WA:=ab ha;have HB:=ab Hb;have SA:=ab ha.sm;have SB:=ab hb.sm;have HLE:=ab hle;clear Ha ha Hb hb hle;go_enter Tryz.func164,Tryz.ntmps164
 go_wp2_with fail;refine (jh _ xs w WA.out hl).mono ?_;rintro e w1 ⟨v,rfl,o1,g1⟩;have O1:=ab o1;have G1:=ab g1;obtain ⟨vo,vc,rfl,hv1,hv2,hvo⟩:=o1.open;unfold maxLen at hv2;clear o1 g1 hvo;go_wp2;go_loopw [6,13] (fun ov iv wr=>Hid (MinusR w (.slice vo xs.length vc) xs ys ov iv wr)) (fun _ iv _=>xs.length-(intOf iv).toNat)
 case atStart=>exact ⟨0,0,[],Nat.zero_le _,by omega,rfl,rfl,rfl,Sm.nil,by simpa using O1.out,G1.out,by simp [ak]⟩
 case round =>
  obtain ⟨k,o,done,hk,ho,rfl,rfl,h1,h2,h3,h4,h5⟩:=hrel.out;have hlen3:(done++xs.drop k).length=xs.length:=by simp [h1];omega
  have h3':gB wr w.heap.size (.slice vo (done++xs.drop k).length vc) (done++xs.drop k):=by rw [hlen3];exact h3
  have H1:=ab h1;have H2:=ab h2;have H3:=ab h3;have H4:=ab h4;have H5:=ab h5;clear hrel h1 h2 h4 h5;by_cases hlt:k<xs.length
  ·obtain ⟨g,rfl⟩:∃ g,vo=some ⟨g,0,none⟩:=by
    obtain ⟨ao2,cap2,e,_,_,h | ⟨g,h,_⟩⟩:=h3'.open
    ·rcases h3'.2 with ⟨_,h0⟩ | ⟨g,cap',cur,e2,_⟩
     ·rw [hlen3] at h0;omega
     ·simp only [Value.slice.injEq] at e2;exact ⟨g,e2.1⟩
    ·simp only [Value.slice.injEq] at e;exact ⟨g,by rw [e.1];exact h⟩
   have hx:=(aG SA).get k hlt;obtain ⟨q1,q2,q3⟩:=h3'.at k (by rw [hlen3];exact hlt);rw [zT done xs k H1.out hlt] at q1;obtain ⟨x,ex⟩:∃ x,x=xs[k]:=⟨_,rfl⟩;rw [<- ex] at q1 hx;have EX:=ab ex;have Q3:Hid (∀ (r:Nat) (z:Int),z=(r:Int)->gB (wr.setCell ⟨g,k,none⟩ (.int .u32 z)) w.heap.size (.slice (some ⟨g,0,none⟩) xs.length vc) ((done++[r])++xs.drop (k+1))):=by
    intro r z hz;have:=q3 r z hz;rw [zU done xs k r H1.out hlt,hlen3] at this;exact this
   have hgk:Hid (w.heap.size<=g):=by
    have:=H3.out.fresh g rfl;exact this.1
   clear q3 ex h3' h3 hlen3;by_cases hlt2:k<ys.length
   ·obtain ⟨b2,off2,rfl,hbl2,hcell2⟩:=aG HB k hlt2;have hy:=(aG SB).get k hlt2;obtain ⟨y,ey⟩:∃ y,y=ys[k]:=⟨_,rfl⟩;rw [<- ey] at hcell2 hy;have EY:Hid (y=ys.getD k 0):=by rw [ey];show _=_;simp [hlt2]
    have hcy:wr.cell? ⟨b2,off2+k,none⟩=some (.int .u32 (y:Nat)):=H4.out.cell hcell2 (by simp);clear ey hcell2;by_cases hxt:x<o+y
    ·obtain ⟨r,r1,r2,r3,r4⟩:=jk x (o+y) hx (by omega);rw [Int.natCast_add] at r1;have hr:r+(o+y)=x+4294967296*1:=by have:=r3 hxt;omega
     have HRR:=ab hr;have HR1:=ab r1;clear r3 r4 hr;go_wp2;go_roundw
     case rel =>
      refine ⟨k+1,1,done++[r],by omega,by omega,by go_num,rfl,by simp [H1.out],H2.out.append (Sm.cons r2 Sm.nil),Q3.out r _ (by first | exact r1 | rfl | (have:=HRR.out;omega)),ai H4.out _ _ hgk.out,?_⟩;rw [aO,H1.out,cU ys k,ay xs k hlt,<- EX.out,<- EY.out,Nat.pow_succ];exact iQ _ _ _ _ y x r (o+y) o 1 H5.out rfl HRR.out
     case measure=>simp [intOf];omega
    ·obtain ⟨r,r1,r2,r3,r4⟩:=jk x (o+y) hx (by omega);rw [Int.natCast_add] at r1;have hr:r+(o+y)=x+4294967296*0:=by have:=r4 hxt;omega
     have HRR:=ab hr;have HR1:=ab r1;clear r3 r4 hr;go_wp2;go_roundw
     case rel =>
      refine ⟨k+1,0,done++[r],by omega,by omega,by go_num,rfl,by simp [H1.out],H2.out.append (Sm.cons r2 Sm.nil),Q3.out r _ (by first | exact r1 | rfl | (have:=HRR.out;omega)),ai H4.out _ _ hgk.out,?_⟩;rw [aO,H1.out,cU ys k,ay xs k hlt,<- EX.out,<- EY.out,Nat.pow_succ];exact iQ _ _ _ _ y x r (o+y) o 0 H5.out rfl HRR.out
     case measure=>simp [intOf];omega
   ·have EY:Hid ((0:Nat)=ys.getD k 0):=by show _=_;simp [List.getD,show ¬ k<ys.length from hlt2]
    by_cases hxt:x<o
    ·obtain ⟨r,r1,r2,r3,r4⟩:=jk x o hx (by omega);have hr:r+o=x+4294967296*1:=by have:=r3 hxt;omega
     have HRR:=ab hr;have HR1:=ab r1;clear r3 r4 hr;go_wp2;go_roundw
     case rel =>
      refine ⟨k+1,1,done++[r],by omega,by omega,by go_num,rfl,by simp [H1.out],H2.out.append (Sm.cons r2 Sm.nil),Q3.out r _ (by first | exact r1 | rfl | (have:=HRR.out;omega)),ai H4.out _ _ hgk.out,?_⟩;rw [aO,H1.out,cU ys k,ay xs k hlt,<- EX.out,<- EY.out,Nat.pow_succ];exact iQ _ _ _ _ 0 x r o o 1 H5.out rfl HRR.out
     case measure=>simp [intOf];omega
    ·obtain ⟨r,r1,r2,r3,r4⟩:=jk x o hx (by omega);have hr:r+o=x+4294967296*0:=by have:=r4 hxt;omega
     have HRR:=ab hr;have HR1:=ab r1;clear r3 r4 hr;go_wp2;go_roundw
     case rel =>
      refine ⟨k+1,0,done++[r],by omega,by omega,by go_num,rfl,by simp [H1.out],H2.out.append (Sm.cons r2 Sm.nil),Q3.out r _ (by first | exact r1 | rfl | (have:=HRR.out;omega)),ai H4.out _ _ hgk.out,?_⟩;rw [aO,H1.out,cU ys k,ay xs k hlt,<- EX.out,<- EY.out,Nat.pow_succ];exact iQ _ _ _ _ 0 x r o o 0 H5.out rfl HRR.out
     case measure=>simp [intOf];omega
  ·obtain rfl:k=xs.length:=by omega
   have hv:ak done=ak xs-ak ys:=by
    have h:=H5.out;rw [List.take_of_length_le (Nat.le_refl _),List.take_of_length_le hlen] at h;have hd:=bD H2.out;rw [H1.out] at hd;have hle:=HLE.out;have:o=0:=by
     rcases Nat.eq_zero_or_pos o with h0 | h0
     ·exact h0
     ·have e:o=1:=by omega
      rw [e,Nat.mul_one] at h;omega
    rw [this,Nat.mul_zero] at h;omega
   have hw:=H3.out.ws (by rw [List.drop_of_length_le (Nat.le_refl _),List.append_nil];exact H2.out);rw [List.drop_of_length_le (Nat.le_refl _),List.append_nil] at hw;have HW:=ab hw;have HV:=ab hv;have HFR:=ab (H3.out.fresh);clear hw hv h3 h3' hlen3;go_wp2_with fail;refine (fA _ done _ HW.out).mono ?_;rintro e w2 ⟨v',rfl,rfl,k1,k2⟩;have K1:=ab k1;have K2:=ab k2;clear k1 k2;go_wp2;go_ret;refine ⟨v',rfl,?_,H4.out,?_⟩
   ·have:=K1.out;rw [HV.out,H1.out] at this;exact this
   ·intro j hj;rw [K2.out] at hj;exact (HFR.out j hj).1
theorem ru (va vb:Value) (m n L M:Nat) (w:World) (ha:aU w va m L) (hb:aU w vb n M) (hle:n<=m) (hl:L<=10000000000000) :
  Calls Tryz.prog 164 #[va,vb] w fun e w'=>qK w (m-n) L e w':=by
 obtain ⟨xs,x1,x2,x3,x4⟩:=ha;obtain ⟨ys,y1,y2,y3,y4⟩:=hb;have h:=lA y1.sm y2 x1.sm (by omega);refine (B9 va vb xs ys w x1 y1 h (by omega) (by omega)).mono ?_;rintro e w' ⟨v',rfl,k1,k2,k3⟩;rw [x3,y3] at k1;exact ⟨v',rfl,k1.mono (by omega),k2,k3⟩
theorem mO (x:Value) (neg:Bool) (n d L:Nat) (w:World) (hx:FV w x neg n d L) :
  Calls Tryz.prog 103 #[x] w fun e w'=>e=.returned (.bool (decide (n=0)))/\w.grownBy w' none:=by
 obtain ⟨uo,ul,uc,do_,dl,dc,rfl⟩:=hx.shape;obtain ⟨up,down,e,h1,_⟩:=hx;simp only [Value.agg.injEq,Array.mk.injEq,List.cons.injEq,and_true,true_and] at e;obtain ⟨rfl,rfl⟩:=e;obtain ⟨o',l',c',e2,u1,u2,u3⟩:=h1.shape;simp only [Value.slice.injEq] at e2;obtain ⟨rfl,rfl,rfl⟩:=e2;unfold maxLen at u3;clear h1;by_cases h0:n=0
 ·have hl:ul=0:=u1.2 h0;subst hl;have hd:decide (n=0)=true:=decide_eq_true h0;rw [hd];clear u1 h0 hd;go_enter Tryz.func103,Tryz.ntmps103
  go_wp2;go_ret;exact ⟨rfl,ag (ae _ _) _⟩
 ·have hl:ul≠0:=fun e=>h0 (u1.1 e)
  have hb:(((ul:Nat):Int)==0)=false:=beq_eq_false_iff_ne.2 (by omega);have hd:decide (n=0)=false:=decide_eq_false h0;rw [hd];clear u1 h0 hd hl;go_enter Tryz.func103,Tryz.ntmps103
  go_wp2;go_ret;exact ⟨by first | rfl | simp [hb],ag (ae _ _) _⟩
def nV (neg:Bool) (n:Nat):Bool:=!neg && !(decide (n=0))
theorem FV.opp {w w':World} {u v:Value} {neg:Bool} {n d L:Nat} (h:FV w (.agg #[.bool neg,u,v]) neg n d L) (hg:w.grownBy w' none):FV w' (.agg #[.bool (nV neg n),u,v]) (nV neg n) n d L:=by
 obtain ⟨up,down,e,h1,h2,h3,h4⟩:=h.keep0 hg;simp only [Value.agg.injEq,Array.mk.injEq,List.cons.injEq,and_true,true_and] at e;obtain ⟨rfl,rfl⟩:=e;refine ⟨_,_,rfl,h1,h2,h3,fun hb=>?_⟩;unfold nV at hb;simp at hb;omega
theorem uD (x:Value) (neg:Bool) (n d L:Nat) (w:World) (hx:FV w x neg n d L) :
  Calls Tryz.prog 109 #[x] w fun e w'=>fW w (nV neg n) n d L e w':=by
 have HX:=ab hx;obtain ⟨uo,ul,uc,do_,dl,dc,rfl⟩:=hx.shape;clear hx;obtain ⟨W,hW⟩:∃ W,W=(w.alloc (Obj.cells #[.bool neg,.slice uo ul uc,.slice do_ dl dc] 91)).alloc (Obj.cells #[.bool false,.slice none 0 0,.slice none 0 0] 91):=⟨_,rfl⟩;have GW:Hid (w.grownBy W none):=by rw [hW];exact ag (ag (ae _ _) _) _
 have CELLS:Hid (∀ wx,W.grownBy wx none->(wx.cell? ⟨w.heap.size,0,none⟩=some (.bool neg)/\wx.cell? ⟨w.heap.size,1,none⟩=some (.slice uo ul uc)/\wx.cell? ⟨w.heap.size,2,none⟩=some (.slice do_ dl dc)/\∀ i,wx.frozen? ⟨w.heap.size,i,none⟩=false)/\(wx.cell? ⟨w.heap.size+1,0,none⟩=some (.bool false)/\wx.cell? ⟨w.heap.size+1,1,none⟩=some (.slice none 0 0)/\wx.cell? ⟨w.heap.size+1,2,none⟩=some (.slice none 0 0)/\∀ i,wx.frozen? ⟨w.heap.size+1,i,none⟩=false)):=by
  intro wx hg;rw [hW] at hg;have a1:=aV (aa (ag (ae _ none) _) hg);have a3:=aV hg;have e3:(w.alloc (Obj.cells #[.bool neg,.slice uo ul uc,.slice do_ dl dc] 91)).heap.size=w.heap.size+1:=by simp
  rw [e3] at a3;exact ⟨a1,a3⟩
 cases neg with
 | true =>
  obtain ⟨⟨s0,s1,s2,sf⟩,⟨r0,r1,r2,rf⟩⟩:=CELLS.out W (ae _ _);have sf0:=sf 0;have rf0:=rf 0;have rf1:=rf 1;have rf2:=rf 2;clear sf rf;go_enter Tryz.func109,Tryz.ntmps109
  go_wp2;refine bodyPost_ret (v:=.agg #[.bool (nV true n),.slice uo ul uc,.slice do_ dl dc]) (by simp [results,Tryz.results109,go_sem,nV]) rfl ?_;exact ⟨_,rfl,HX.out.opp (ag (ag (ae _ _) _) _),ag (ag (ae _ _) _) _⟩
 | false =>
  have hb:nV false n = !(decide (n=0)):=by simp [nV]
  go_enter Tryz.func109,Tryz.ntmps109
  go_wp2_with fail;rw [<- hW];refine (mO _ false n d L W (HX.out.keep0 GW.out)).mono ?_;rintro e w2 ⟨rfl,k2⟩;obtain ⟨⟨s0,s1,s2,sf⟩,⟨r0,r1,r2,rf⟩⟩:=CELLS.out w2 k2;have sf0:=sf 0;have rf0:=rf 0;have rf1:=rf 1;have rf2:=rf 2;have K2:=ab (aa GW.out k2);clear sf rf k2;go_wp2;refine bodyPost_ret (v:=.agg #[.bool (nV false n),.slice uo ul uc,.slice do_ dl dc]) (by simp [results,Tryz.results109,go_sem,r0,r1,r2,nV]) rfl ?_;have kF:w.grownBy ((((w2.setCell ⟨w.heap.size,0,none⟩ (.bool (!(decide (n=0))))).setCell ⟨w.heap.size+1,0,none⟩ (.bool (!(decide (n=0))))).setCell ⟨w.heap.size+1,1,none⟩ (.slice uo ul uc)).setCell ⟨w.heap.size+1,2,none⟩ (.slice do_ dl dc)) none:=ai (ai (ai (ai K2.out _ _ (by simp)) _ _ (by simp)) _ _ (by simp)) _ _ (by simp);exact ⟨_,rfl,HX.out.opp kF,kF⟩
end Go.Proofs.YthblidglcppakaaGreatDoor
