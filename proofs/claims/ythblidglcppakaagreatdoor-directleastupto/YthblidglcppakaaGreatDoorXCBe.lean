/- Contracts that the proof leans on. -/
import Derived.Test.YthblidglcppakaaGreatDoorXCBa
import Derived.Test.YthblidglcppakaaGreatDoorXMFf
import Derived.Test.YthblidglcppakaaGreatDoorXCBc
import Derived.Deep.RegionHeld3
import Derived.Test.YthblidglcppakaaGreatDoorXCBd
namespace Go.Proofs.YthblidglcppakaaGreatDoor
open Go.RowKit
set_option linter.unusedVariables false
set_option linter.unusedSimpArgs false
set_option maxHeartbeats 8000000
set_option maxRecDepth 10000
def kt (w wr:World) (xs ys:List Nat) (k c:Nat):Prop :=
 ∃ done:List Nat,done.length=k/\Sm done/\ch wr w.heap.size (done++List.replicate (xs.length-k) 0)/\w.grownBy wr none/\ak done+ak (ys.take k)=ak (xs.take k)+4294967296^k*c
theorem kt.step {w wr:World} {xs ys:List Nat} {k c:Nat} (h:kt w wr xs ys k c) (hk:k<xs.length) (x y r c':Nat) (hx:x=xs[k]) (hy:y=ys.getD k 0) (hr:r<4294967296) (he:r+(c+y)=x+4294967296*c') (z:Int) (hz:z=(r:Int)) :
  kt w (wr.setCell ⟨w.heap.size,k,none⟩ (.int .u32 z)) xs ys (k+1) c':=by
 obtain ⟨done,h1,h2,h3,h4,h5⟩:=h;refine ⟨done++[r],by simp [h1],h2.append (Sm.cons hr Sm.nil),?_,ai h4 _ _ (Nat.le_refl _),?_⟩
 ·have:=h3.set k r;rw [dR done k _ _ h1 (by omega)] at this;rw [hz,show xs.length-(k+1)=xs.length-k-1 from by omega];exact this
 ·rw [aO,h1,cU ys k,ay xs k hk,<- hx,<- hy,Nat.pow_succ];exact iQ _ _ _ _ y x r (c+y) c c' h5 rfl he
theorem qR (x c y:Nat) (hx:x<4294967296) (hc:c<=1) (hy:y<4294967296) :
  ∃ d1 d2 r c':Nat,IntKind.u64.wrap ((x:Int)-(c:Int))=(d1:Int)/\IntKind.u64.wrap ((d1:Int)-(y:Int))=(d2:Int)/\d1<18446744073709551616/\d2<18446744073709551616/\d2 % 4294967296=r/\d2 / 9223372036854775808=c'/\r<4294967296/\c'<=1/\r+(c+y)=x+4294967296*c':=by
 refine ⟨(((x:Int)-c) % 18446744073709551616).toNat,(((((x:Int)-c) % 18446744073709551616).toNat-(y:Int)) % 18446744073709551616).toNat,_,_,?_,?_,?_,?_,rfl,rfl,?_,?_,?_⟩
 ·rw [IntKind.wrap_u64];omega
 ·rw [IntKind.wrap_u64];omega
 ·omega
 ·omega
 ·omega
 ·omega
 ·omega
theorem bsub_ws (va vb:Value) (xs ys:List Nat) (w:World) (ha:Ws w va xs) (hb:Ws w vb ys) (hl:xs.length<=10000000000000) (hlen:ys.length<=xs.length) (hle:ak ys<=ak xs) :
  Calls Tryz.prog 95 #[va,vb] w fun e w'=>∃ v',e=.returned v'/\aU w' v' (ak xs-ak ys) xs.length/\w.grownBy w' none/\bA w v':=by
 obtain ⟨ao,ca,rfl,hca,hca',Ha⟩:=ha.open;obtain ⟨bo,cb,rfl,hcb,hcb',Hb⟩:=hb.open;unfold maxLen at hca' hcb';have HA:=ab Ha;have HB:=ab Hb;have SA:=ab ha.sm;have SB:=ab hb.sm;have HLE:=ab hle;clear Ha Hb ha hb hle;go_enter Tryz.func95,Tryz.ntmps95
 go_wp2_with (at_make;refine aD _ rfl _ _ 43 rfl Tryz.underlying43 Tryz.info32 _ _ _ _ xs.length rfl rfl (by omega) (by omega) (by omega) ?_)
 intro w1 harr hgr;have HR:=ab harr;have HG:=ab hgr;clear harr hgr;go_wp2;go_loopw [6,7] (fun cv i wr=>∃ k c:Nat,k<=xs.length/\c<=1/\i=.int .i64 k/\cv=.int .u64 c/\Hid (kt w wr xs ys k c)) (fun _ i _=>xs.length-(intOf i).toNat)
 case atStart=>exact ⟨0,0,Nat.zero_le _,by omega,rfl,rfl,[],rfl,Sm.nil,by simpa using HR.out,HG.out,by simp [ak]⟩
 case round =>
  obtain ⟨k,c,hk,hc1,rfl,rfl,HI⟩:=hrel;by_cases hlt:k<xs.length
  ·obtain ⟨b,off,rfl,hbl,hcell⟩:=aG HA k hlt;have hx:=(aG SA).get k hlt;obtain ⟨x,ex⟩:∃ x,x=xs[k]:=⟨_,rfl⟩;rw [<- ex] at hcell hx;have EX:=ab ex;clear ex;have hcx:wr.cell? ⟨b,off+k,none⟩=some (.int .u32 (x:Nat)):=by
    obtain ⟨done,h1,h2,h3,h4,h5⟩:=HI.out;exact h4.cell hcell (by simp)
   have hfr:wr.frozen? ⟨w.heap.size,k,none⟩=false:=by
    obtain ⟨done,h1,h2,h3,h4,h5⟩:=HI.out;exact h3.free k
   have hco:∃ v,wr.cell? ⟨w.heap.size,k,none⟩=some v:=by
    obtain ⟨done,h1,h2,h3,h4,h5⟩:=HI.out;exact ⟨_,h3.cell k (by simp;omega)⟩
   obtain ⟨v0,hco⟩:=hco;clear hcell;by_cases hlt2:k<ys.length
   ·obtain ⟨b2,off2,rfl,hbl2,hcell2⟩:=aG HB k hlt2;have hy:=(aG SB).get k hlt2;obtain ⟨y,ey⟩:∃ y,y=ys[k]:=⟨_,rfl⟩;rw [<- ey] at hcell2 hy;have EY:=ab ey;clear ey;have hcy:wr.cell? ⟨b2,off2+k,none⟩=some (.int .u32 (y:Nat)):=by
     obtain ⟨done,h1,h2,h3,h4,h5⟩:=HI.out;exact h4.cell hcell2 (by simp)
    clear hcell2;obtain ⟨d1,d2,r,c',e1,e2,e3,e4,e5,e6,e7,e8,e9⟩:=qR x c y hx hc1 hy;have E9:=ab e9;clear e9;go_wp2;go_roundw
    case rel=>exact ⟨k+1,c',by omega,e8,by go_num,by first | rfl | go_num | (congr 1;omega),kt.step HI.out hlt x y r c' EX.out (by rw [EY.out];simp [hlt2]) e7 E9.out _ (by omega)⟩
    case measure=>simp [intOf];omega
   ·obtain ⟨d1,d2,r,c',e1,e2,e3,e4,e5,e6,e7,e8,e9⟩:=qR x c 0 hx hc1 (by decide);have E9:=ab e9;have hd12:d2=d1:=by rw [IntKind.wrap_u64] at e2;omega
    subst hd12;clear e9 e2;go_wp2;go_roundw
    case rel=>exact ⟨k+1,c',by omega,e8,by go_num,by first | rfl | go_num | (congr 1;omega),kt.step HI.out hlt x 0 r c' EX.out (by simp [List.getD,hlt2]) e7 E9.out _ (by omega)⟩
    case measure=>simp [intOf];omega
  ·obtain rfl:k=xs.length:=by omega
   obtain ⟨done,h1,h2,h3,h4,h5⟩:=HI.out;rw [Nat.sub_self,List.replicate_zero,List.append_nil] at h3;have hv:ak done=ak xs-ak ys:=by
    rw [List.take_of_length_le (Nat.le_refl _),List.take_of_length_le hlen] at h5;have hd:=bD h2;rw [h1] at hd;have hle:=HLE.out;have:c=0:=by
     rcases Nat.eq_zero_or_pos c with h0 | h0
     ·exact h0
     ·have e:c=1:=by omega
      rw [e,Nat.mul_one] at h5;omega
    rw [this,Nat.mul_zero] at h5;omega
   have hw:=h3.ws h2 (by rw [h1];unfold maxLen;omega);rw [h1] at hw;have HW:=ab hw;have HV:=ab hv;have H1:=ab h1;have H4:=ab h4;clear hw hv h1 h2 h3 h4 h5;go_wp2_with fail;refine (dX _ done _ HW.out).mono ?_;rintro e w2 ⟨v',rfl,rfl,k1,k2⟩;go_wp2;go_ret;refine ⟨v',rfl,?_,H4.out,?_⟩
   ·rw [HV.out,H1.out] at k1;exact k1
   ·intro j hj;rw [k2] at hj;simp [az] at hj;omega
theorem tr (va vb:Value) (m n L M:Nat) (w:World) (ha:aU w va m L) (hb:aU w vb n M) (hle:n<=m) (hl:L<=10000000000000) :
  Calls Tryz.prog 95 #[va,vb] w fun e w'=>∃ v',e=.returned v'/\aU w' v' (m-n) L/\w.grownBy w' none/\bA w v':=by
 obtain ⟨xs,x1,x2,x3,x4⟩:=ha;obtain ⟨ys,y1,y2,y3,y4⟩:=hb;have h:=lA y1.sm y2 x1.sm (by omega);refine (bsub_ws va vb xs ys w x1 y1 (by omega) h (by omega)).mono ?_;rintro e w' ⟨v',rfl,k1,k2,k3⟩;rw [x3,y3] at k1;exact ⟨v',rfl,k1.mono (by omega),k2,k3⟩
def BSumE (w:World) (z:Int) (L:Nat) (e:Ending) (w':World):Prop:=∃ (neg:Bool) (v:Value) (k:Nat),e=.returned (.tuple #[.bool neg,v])/\aU w' v k L/\sg neg k=z/\w.grownBy w' none/\bA w v
theorem yi (m n:Nat):(0<=iG m n)↔n<=m:=by
 unfold iG;repeat' split
 all_goals omega
theorem bsum_at (s t:Bool) (va vb:Value) (m n L M:Nat) (w:World) (ha:aU w va m L) (hb:aU w vb n M) (hL:L<=9000000000000) (hM:M<=9000000000000) :
  Calls Tryz.prog 71 #[.bool s,va,.bool t,vb] w fun e w'=>BSumE w (sg s m+sg t n) (max L M+1) e w':=by
 have HA:=ab ha;have HB:=ab hb;clear ha hb;by_cases hst:s=t
 ·subst hst;have hbb:(s==s)=true:=by simp
  go_enter Tryz.func71,Tryz.ntmps71
  go_wp2_with fail;refine (xM va vb m n L M _ HA.out HB.out (by omega) (by omega)).mono ?_;rintro e w1 ⟨v',rfl,k1,k2,k3⟩;have K1:=ab k1;have K2:=ab k2;have K3:=ab k3;clear k1 k2 k3;go_wp2;go_ret2
  exact ⟨s,v',m+n,rfl,K1.out,by unfold sg;cases s<;>simp<;>omega,K2.out,K3.out⟩
 ·have hbb:(s==t)=false:=beq_eq_false_iff_ne.2 hst;have HST:=ab hst;clear hst;go_enter Tryz.func71,Tryz.ntmps71
  go_wp2_with fail;refine (r9 va vb m n L M _ HA.out HB.out).mono ?_;rintro e w1 ⟨rfl,q,rfl⟩;have G1:Hid (w.grownBy (w.drewN q) none):=aF q;have HA1:=ab (HA.out.keep0 G1.out);have HB1:=ab (HB.out.keep0 G1.out);generalize w.drewN q=w1 at G1 HA1 HB1 ⊢;by_cases hge:n<=m
  ·have ho:(0:Int)<=iG m n:=(yi m n).2 hge;have hod:decide ((0:Int)<=iG m n)=true:=decide_eq_true ho;go_wp2_with fail;refine (tr va vb m n L M _ HA1.out HB1.out hge (by omega)).mono ?_;rintro e w2 ⟨v',rfl,k1,k2,k3⟩;have K1:=ab (k1.mono (show L<=max L M+1 by omega));have K2:=ab k2;have K3:=ab k3;clear k1 k2 k3;go_wp2;go_ret2
   refine ⟨s,v',m-n,rfl,K1.out,?_,aa G1.out K2.out,fun k hk=>Nat.le_trans G1.out.size (K3.out k hk)⟩;have:=HST.out;unfold sg;cases s<;>cases t<;>simp_all<;>omega
  ·have ho:¬ (0:Int)<=iG m n:=fun h=>hge ((yi m n).1 h)
   have hod:decide ((0:Int)<=iG m n)=false:=decide_eq_false ho;go_wp2_with fail;refine (tr vb va n m M L _ HB1.out HA1.out (by omega) (by omega)).mono ?_;rintro e w2 ⟨v',rfl,k1,k2,k3⟩;have K1:=ab (k1.mono (show M<=max L M+1 by omega));have K2:=ab k2;have K3:=ab k3;clear k1 k2 k3;go_wp2;go_ret2
   refine ⟨t,v',n-m,rfl,K1.out,?_,aa G1.out K2.out,fun k hk=>Nat.le_trans G1.out.size (K3.out k hk)⟩;have:=HST.out;unfold sg;cases s<;>cases t<;>simp_all<;>omega
theorem zE (b off bx ox bY oY:Nat) (neg0:Bool) (v0:Value) (x y:Int) (L M:Nat) (w:World) (hB:gC w b off neg0 v0) (hX:aB w bx ox x L) (hY:aB w bY oY y M) (hL:L<=9000000000000) (hM:M<=9000000000000) (hnx:bx≠b) (hny:bY≠b) :
  Calls Tryz.prog 33 #[.pointer (some ⟨b,off,none⟩),.pointer (some ⟨bx,ox,none⟩),.pointer (some ⟨bY,oY,none⟩)] w fun e w'=>e=.returned (.pointer (some ⟨b,off,none⟩))/\fY w w' b off/\aB w' b off (x+y) (max L M+1)/\eX w w' b off:=by
 have HB:=ab hB;have hb:=hB.lt;obtain ⟨neg,v,h1,h2,h3,h4⟩:=hX;obtain ⟨neg',u,h1',h2',h3',h4'⟩:=hY;have HX:=ab h1;have c0:=h1.c0;have c1:=h1.c1;have HY:=ab h1';have d0:=h1'.c0;have d1:=h1'.c1;have H2:=ab h2;have H3:=ab h3;have H2':=ab h2';have H3':=ab h3';clear hB h1 h2 h3 h4 h1' h2' h3' h4';go_enter Tryz.func33,Tryz.ntmps33
 go_wp2;go_region_held3 (fun w'=>w'.cell? ⟨bx,ox,none⟩=some (.bool neg)/\w'.cell? ⟨bx,ox+1,none⟩=some v/\w'.cell? ⟨bY,oY,none⟩=some (.bool neg')/\w'.cell? ⟨bY,oY+1,none⟩=some u) (go_keep)
  (first | (go_at_call 71;refine (bsum_at neg neg' _ _ _ _ L M _ (H2.out.keep0 (aF _)) (H2'.out.keep0 (aF _)) hL hM).mono ?_;rintro e w1 ⟨ng,v',kk,rfl,k1,kz,k2,k3⟩;have q0:=(HX.out.keep0 (aa (aF _) k2)).c0;have q0':=(HX.out.keep0 (aa (aF _) k2)).c1;have q1:=(HY.out.keep0 (aa (aF _) k2)).c0;have q1':=(HY.out.keep0 (aa (aF _) k2)).c1) | (go_at_call 65;refine (gS b off neg0 v0 ng v' _ (max L M+1) w1 (HB.out.keep0 (aa (aF _) k2)) k1 (gR (w1:=w) k3 hb)).mono ?_;rintro e w2 ⟨rfl,a1,a2,a5⟩;have r0:=((HX.out.keep0 (aa (aF _) k2)).keep a1 (.inl hnx)).c0;have r1:=((HX.out.keep0 (aa (aF _) k2)).keep a1 (.inl hnx)).c1;have r2:=((HY.out.keep0 (aa (aF _) k2)).keep a1 (.inl hny)).c0;have r3:=((HY.out.keep0 (aa (aF _) k2)).keep a1 (.inl hny)).c1))
 all_goals go_wp2
 all_goals go_ret
 all_goals rw [kz,pP x neg H3.out,pP y neg' H3'.out] at a2
 all_goals exact ⟨rfl,(fY.of_gr (aa (aF _) k2) b off hb).trans a1,a2,eX.of a5 k3 (Nat.le_refl _)⟩
def vV (w:World) (F:List Nat) (p o:Nat) (z:Int) (L:Nat):Prop:=aB w p o z L/\p∉F/\∀ v,w.cell? ⟨p,o+1,none⟩=some v->∀ k∈F,az v≠some k
abbrev pp (b o:Nat):Value:=.pointer (some ⟨b,o,none⟩)
structure rS where
 p:Nat
 o:Nat
 z:Int
 L:Nat
structure aT (w0 w:World) (F:List Nat) (I:List rS):Prop where
 gr:w0.grownBy w none
 nd:F.Nodup
 fr:∀ k∈F,w0.heap.size<=k/\gC w k 0 false (.slice none 0 0)
 it:∀ i∈I,vV w F i.p i.o i.z i.L
theorem aB.words {w:World} {p o L:Nat} {z:Int} (h:aB w p o z L) {v:Value} (hv:w.cell? ⟨p,o+1,none⟩=some v) {k:Nat} (hk:az v=some k):k<w.heap.size:=by
 obtain ⟨neg,u,u1,u2,u3,u4⟩:=h;rw [u1.c1] at hv;obtain rfl:=Option.some.inj hv;obtain ⟨xs,x1,x2,x3,x4⟩:=u2;exact x1.blk k hk
theorem lj {w w':World} {p o L:Nat} {z:Int} (h:aB w p o z L) (hg:w.grownBy w' none) (o':Nat):w'.cell? ⟨p,o',none⟩=w.cell? ⟨p,o',none⟩ :=
 World.cell?_of_block (w:=w) (a:=⟨p,o',none⟩) (hg.block p h.lt (by simp))
theorem vV.keep0 {w w':World} {F:List Nat} {p o L:Nat} {z:Int} (h:vV w F p o z L) (hg:w.grownBy w' none):vV w' F p o z L :=
 ⟨h.1.keep0 hg,h.2.1,fun v hv=>h.2.2 v (by rw [<- lj h.1 hg (o+1)];exact hv)⟩
theorem aT.grow {w0 w w':World} {F:List Nat} {I:List rS} (m:aT w0 w F I) (hg:w.grownBy w' none):aT w0 w' F I :=
 ⟨aa m.gr hg,m.nd,fun k hk=>⟨(m.fr k hk).1,(m.fr k hk).2.keep0 hg⟩,fun i hi=>(m.it i hi).keep0 hg⟩
theorem aT.lt {w0 w:World} {F:List Nat} {I:List rS} (m:aT w0 w F I) {k:Nat} (hk:k∈F):k<w.heap.size:=(m.fr k hk).2.lt
theorem aT.start {w0 w:World} (h:w0.grownBy w none):aT w0 w [] []:=⟨h,List.nodup_nil,(fun k hk=>nomatch hk),(fun i hi=>nomatch hi)⟩
theorem aT.alloc {w0 w:World} {A B:List Nat} {I:List rS} (m:aT w0 w (A++B) I):aT w0 (w.alloc (.cells #[.bool false,.slice none 0 0] 45)) (A++w.heap.size :: B) I:=by
 have g:w.grownBy (w.alloc (.cells #[.bool false,.slice none 0 0] 45)) none:=ag (ae w none) _;have hn:w.heap.size∉A++B:=fun h=>Nat.lt_irrefl _ (m.lt h)
 have hm:∀ k,k∈A++w.heap.size :: B->k=w.heap.size∨k∈A++B:=by
  intro k hk;simp only [List.mem_append,List.mem_cons] at hk ⊢;rcases hk with h | h | h
  ·exact .inr (.inl h)
  ·exact .inl h
  ·exact .inr (.inr h)
 refine ⟨aa m.gr g,?_,?_,?_⟩
 ·have:=m.nd;simp only [List.nodup_append,List.nodup_cons,List.mem_append,List.mem_cons,not_or] at this hn ⊢;refine ⟨this.1,⟨hn.2,this.2.1⟩,?_⟩;intro a ha b hb;rcases hb with h | h
  ·rintro rfl;exact hn.1 (h▸ha)
  ·exact this.2.2 a ha b h
 ·intro k hk;rcases hm k hk with rfl | h
  ·exact ⟨m.gr.size,gh w⟩
  ·exact ⟨(m.fr k h).1,(m.fr k h).2.keep0 g⟩
 ·intro i hi;have h:=m.it i hi;refine ⟨h.1.keep0 g,?_,?_⟩
  ·intro hp;rcases hm _ hp with e | e
   ·have:=h.1.lt;omega
   ·exact h.2.1 e
  ·intro v hv k hk e;rw [lj h.1 g] at hv;rcases hm _ hk with e' | e'
   ·have:=h.1.words hv e;omega
   ·exact h.2.2 v hv k e' e
theorem aT.new {w0 w w':World} {F:List Nat} {I:List rS} (m:aT w0 w F I) (hg:w.grownBy w' none) {p o L:Nat} {z:Int} (h:aB w' p o z L) (hp:w.heap.size<=p) (hn:eX w w' p o):aT w0 w' F (⟨p,o,z,L⟩ :: I):=by
 have m':=m.grow hg;refine ⟨m'.gr,m'.nd,m'.fr,?_⟩;intro i hi;rcases List.mem_cons.1 hi with rfl | hi
 ·refine ⟨h,fun hf=>?_,fun v hv k hk e=>?_⟩
  ·have:=m.lt hf;simp only at this;omega
  ·have h1:=m.lt hk;have h2:=hn v hv k e;omega
 ·exact m'.it i hi
theorem aT.old {w0 w:World} {F:List Nat} {I:List rS} (m:aT w0 w F I) {p o L:Nat} {z:Int} (h:aB w0 p o z L):aT w0 w F (⟨p,o,z,L⟩ :: I):=by
 refine ⟨m.gr,m.nd,m.fr,?_⟩;intro i hi;rcases List.mem_cons.1 hi with rfl | hi
 ·refine ⟨h.keep0 m.gr,fun hf=>?_,fun v hv k hk e=>?_⟩
  ·have:=(m.fr _ hf).1;have:=h.lt;simp only at *;omega
  ·rw [lj h m.gr] at hv;have h1:=h.words hv e;have h2:=(m.fr k hk).1;omega
 ·exact m.it i hi
theorem aT.put {w0 w w':World} {A B:List Nat} {b:Nat} {I:List rS} (m:aT w0 w (A++b :: B) I) (hp:fY w w' b 0) {L:Nat} {z:Int} (h:aB w' b 0 z L) (hn:eX w w' b 0):aT w0 w' (A++B) (⟨b,0,z,L⟩ :: I):=by
 have hb:b∈A++b :: B:=by simp
 have hm:∀ k,k∈A++B->k∈A++b :: B/\k≠b:=by
  intro k hk;have nd:=m.nd;simp only [List.nodup_append,List.nodup_cons,List.mem_append,List.mem_cons] at hk nd ⊢;rcases hk with h | h
  ·exact ⟨.inl h,nd.2.2 k h b (.inl rfl)⟩
  ·exact ⟨.inr (.inr h),fun e=>nd.2.1.1 (e▸h)⟩
 refine ⟨cH m.gr hp (m.fr b hb).1,?_,?_,?_⟩
 ·have nd:=m.nd;simp only [List.nodup_append,List.nodup_cons,List.mem_cons] at nd ⊢;exact ⟨nd.1,nd.2.1.2,fun a ha c hc=>nd.2.2 a ha c (.inr hc)⟩
 ·intro k hk;obtain ⟨h1,h2⟩:=hm k hk;exact ⟨(m.fr k h1).1,(m.fr k h1).2.keep hp (.inl h2)⟩
 ·intro i hi;rcases List.mem_cons.1 hi with rfl | hi
  ·refine ⟨h,fun hf=>(hm _ hf).2 rfl,fun v hv k hk e=>?_⟩;have h1:=m.lt (hm k hk).1;have h2:=hn v hv k e;omega
  ·have a:=m.it i hi;have hne:i.p≠b:=fun e=>a.2.1 (e▸hb)
   refine ⟨a.1.keep hp (.inl hne) (fun v hv=>a.2.2 v hv b hb),fun hf=>a.2.1 (hm _ hf).1,fun v hv k hk=>?_⟩;have hc:w'.cell? ⟨i.p,i.o+1,none⟩=w.cell? ⟨i.p,i.o+1,none⟩:=World.cell?_of_block (w:=w) (a:=⟨i.p,i.o+1,none⟩) (hp.gr.block i.p a.1.lt (by simpa using hne));rw [hc] at hv;exact a.2.2 v hv k (hm k hk).1
theorem aT.drop {w0 w:World} {F:List Nat} {I I':List rS} (m:aT w0 w F I) (h:∀ i∈I',i∈I):aT w0 w F I':=⟨m.gr,m.nd,m.fr,fun i hi=>m.it i (h i hi)⟩
theorem aT.away {w0 w:World} {F:List Nat} {I:List rS} (m:aT w0 w F I) {p o L:Nat} {z:Int} (hi:(⟨p,o,z,L⟩:rS)∈I):aB w p o z L:=(m.it _ hi).1
theorem aT.ne {w0 w:World} {F:List Nat} {I:List rS} (m:aT w0 w F I) {p o L:Nat} {z:Int} (hi:(⟨p,o,z,L⟩:rS)∈I) {b:Nat} (hb:b∈F):p≠b:=fun e=>(m.it _ hi).2.1 (e▸hb)
theorem aT.mul {w0 w:World} {A B:List Nat} {b:Nat} {I:List rS} (m:aT w0 w (A++b :: B) I) {p o L q r M:Nat} {x y:Int} (hx:(⟨p,o,x,L⟩:rS)∈I) (hy:(⟨q,r,y,M⟩:rS)∈I) (hL:L+M<=10000000000000) :
  Calls Tryz.prog 34 #[.pointer (some ⟨b,0,none⟩),.pointer (some ⟨p,o,none⟩),.pointer (some ⟨q,r,none⟩)] w fun e w'=>e=.returned (.pointer (some ⟨b,0,none⟩))/\aT w0 w' (A++B) (⟨b,0,x*y,L+M⟩ :: I):=by
 have hb:b∈A++b :: B:=by simp
 refine (mul_at b 0 p o q r _ _ x y L M w (m.fr b hb).2 (m.away hx) (m.away hy) hL (m.ne hx hb) (m.ne hy hb)).mono ?_;rintro e w' ⟨rfl,h1,h2,h3⟩;exact ⟨rfl,m.put h1 h2 h3⟩
theorem aT.add {w0 w:World} {A B:List Nat} {b:Nat} {I:List rS} (m:aT w0 w (A++b :: B) I) {p o L q r M:Nat} {x y:Int} (hx:(⟨p,o,x,L⟩:rS)∈I) (hy:(⟨q,r,y,M⟩:rS)∈I) (hL:L<=9000000000000) (hM:M<=9000000000000) :
  Calls Tryz.prog 33 #[.pointer (some ⟨b,0,none⟩),.pointer (some ⟨p,o,none⟩),.pointer (some ⟨q,r,none⟩)] w fun e w'=>e=.returned (.pointer (some ⟨b,0,none⟩))/\aT w0 w' (A++B) (⟨b,0,x+y,max L M+1⟩ :: I):=by
 have hb:b∈A++b :: B:=by simp
 refine (zE b 0 p o q r _ _ x y L M w (m.fr b hb).2 (m.away hx) (m.away hy) hL hM (m.ne hx hb) (m.ne hy hb)).mono ?_;rintro e w' ⟨rfl,h1,h2,h3⟩;exact ⟨rfl,m.put h1 h2 h3⟩
def jb (w0:World) (b d M:Nat):Prop:=∀ w F I,aT w0 w F I->Calls Tryz.prog 35 #[.pointer (some ⟨b,0,none⟩)] w fun e w'=>∃ p o,e=.returned (.pointer (some ⟨p,o,none⟩))/\w.grownBy w' none/\aT w0 w' F (⟨p,o,(d:Int),M⟩ :: I)
theorem bQ.denC {w:World} {b L:Nat} {x:Int} {y:Nat} (h:bQ w b x y L):jb w b y L:=by
 intro w1 F I m;refine (Bm b x y L w1 (h.keep0 m.gr)).mono ?_;rintro e w' ⟨rfl,rfl⟩;exact ⟨b,2,rfl,ae _ _,m.old h.2.1⟩
theorem aT.low {w0 w1 w:World} {F:List Nat} {I:List rS} (m:aT w1 w F I) (h:w0.grownBy w1 none):aT w0 w F I :=
 ⟨aa h m.gr,m.nd,fun k hk=>⟨Nat.le_trans h.size (m.fr k hk).1,(m.fr k hk).2⟩,m.it⟩
theorem jb.keep0 {w0 w1:World} {b d M:Nat} (h:jb w0 b d M) (hg:w0.grownBy w1 none):jb w1 b d M:=by
 intro w F I m;refine (h w F I (m.low hg)).mono ?_;rintro e w' ⟨p,o,rfl,g,m'⟩;exact ⟨p,o,rfl,g,aa m.gr g,m'.nd,fun k hk=>⟨(m.fr k hk).1,(m'.fr k hk).2⟩,m'.it⟩
theorem vV.mono {w:World} {F:List Nat} {p o L L':Nat} {z:Int} (h:vV w F p o z L) (hl:L<=L'):vV w F p o z L':=⟨h.1.mono hl,h.2⟩
theorem jb.mono {w0:World} {b d M M':Nat} (h:jb w0 b d M) (hl:M<=M'):jb w0 b d M':=by
 intro w F I m;refine (h w F I m).mono ?_;rintro e w' ⟨p,o,rfl,g,m'⟩;refine ⟨p,o,rfl,g,m'.gr,m'.nd,m'.fr,?_⟩;intro i hi;rcases List.mem_cons.1 hi with rfl | hi
 ·exact (m'.it _ (List.mem_cons_self ..)).mono hl
 ·exact m'.it i (List.mem_cons_of_mem _ hi)
end Go.Proofs.YthblidglcppakaaGreatDoor
