/- Contracts. -/
import Derived.Test.YtkbmbmdemajoaaaGreatDoorXPc
import Derived.Deep.RegionHeld3
namespace Go.Proofs.YtkbmbmdemajoaaaGreatDoor
open Go.RowKit
set_option linter.unusedVariables false
set_option linter.unusedSimpArgs false
set_option maxHeartbeats 8000000
set_option maxRecDepth 10000
variable {w wr:World} {c a b d:Int} {k:Nat} {xs ys:List Nat}
def DivR (w:World) (gu gq:Nat) (dv:Value) (vs:List Nat) (N A:Nat) (iv:Value) (wr:World):Prop :=
 ∃ z:Int,-1<=z/\z+vs.length+1<=N/\iv=.int .i64 z/\Hid (Ws wr dv vs)/\Hid (∃ us qs,dw w wr gu gq vs N A (z+1).toNat us qs)
theorem dw.round {wt:World} {gu gq:Nat} {vs:List Nat} {N A j g E:Nat} {us qs:List Nat} (h:dw w wr gu gq vs N A (j+1) us qs) (sv:Sm vs) (m:w.heap.size<=gu) (o:w.heap.size<=gq) (i:gq≠gu) (p:ai (us.drop j) / ai vs<=g) (s:g<=ai (us.drop j) / ai vs+1) (S:g<4294967296)
  (ht:BJ wr wt gu us vs j g E) (hE:E<=1) :
  (E=0->∀ z:Int,z=(g:Int)->∃ us2 qs2,dw w (wt.setCell ⟨gq,j,none⟩ (.int .u32 z)) gu gq vs N A j us2 qs2) /\
  (E=1->1<=g/\∃ us1 R,bW wt gu us1/\Sm us1/\us1.length=N/\ai ((us1.drop j).take (vs.length+1))+ai vs=R+4294967296^(vs.length+1)/\R<4294967296^vs.length /\
   (∀ wg,Given wt gu us1 vs j R wg->∀ z:Int,z=((g-1:Nat):Int)->∃ us2 qs2,dw w (wg.setCell ⟨gq,j,none⟩ (.int .u32 z)) gu gq vs N A j us2 qs2)):=by
 have hh:=h;obtain ⟨v,i2,r,i4,i5,T,F,U,i9⟩:=h;have f:0<ai vs:=O
 obtain ⟨W,G,H,I,x,y⟩:=ht;obtain ⟨w1,V,J⟩:=mE (us:=us) (vs:=vs) (j:=j) sv r O U;rw [w1] at y;obtain ⟨K,L,X,Y,d5⟩:=wh (us:=us) (W:=W) (j:=j) (n:=vs.length+1) G O J;have sm:Sm (us.take j++W++us.drop (j+(vs.length+1))):=((r.take j).append H).append (r.drop _);have l:ai (us.drop j) / ai vs<4294967296:=by rw [Nat.div_lt_iff_lt_mul f];exact V
 have D:bW wt gq (List.replicate (j+1) 0++qs):=T.keep x (fun e=>i (by simpa using e));refine ⟨fun e z hz=>?_,fun e=>?_⟩
 ·obtain ⟨B,C⟩:=np y e p f;exact ⟨_,_,hh.next l (K.trans v) L (X.trans C) sm I D (lX F x m) o i z (by rw [B];exact hz)⟩
 ·have q:=bw H;rw [G] at q;obtain ⟨B,C,e3⟩:=pf y e p s q f;have hR:=Nat.mod_lt (ai (us.drop j)) f;have hV:=bw sv;refine ⟨C,_,ai (us.drop j) % ai vs,I,sm,K.trans v,by rw [Y];exact e3,O,?_⟩;intro wg u z hz;obtain ⟨M,k1,k2,P,Q,k5⟩:=u;rw [L,d5] at P;obtain ⟨f1,f2,f3,f4,f5⟩:=wh (us:=us) (W:=M) (j:=j) (n:=vs.length+1) k1 O J;have t:Sm (us.take j++M++us.drop (j+(vs.length+1))):=((r.take j).append k2).append (r.drop _);exact ⟨_,_,hh.next l (f1.trans v) f2 (f3.trans k5) t P (D.keep Q (fun e=>i (by simpa using e))) (lX (lX F x m) Q m) o i z (by rw [B];exact hz)⟩
theorem wV {g e:World} {gu gq:Nat} {f h:Value} {vs us qs:List Nat} {s:Nat} (n:ai vs=ai ys*2^s) (hd:dw w g gu gq vs (xs.length+1) (ai xs*2^s) 0 us qs) (r:vs.length=ys.length) (i:ys.length<=xs.length) (j:w.heap.size<=gq)
  (n1:aQ e f (ai qs) qs.length) (n2:ar f=some gq) (n5:gP e g.heap.size h (ai (us.take ys.length) / 2^s) ys.length) (g9:g.grownBy e none) (hv0:0<ys.length) (sv:Sm vs):gO w (ai xs) (ai ys) xs.length (.returned (.tuple #[f,h])) e:=by
 obtain ⟨x,y,z,A,B,C,o,m,p⟩:=hd;simp only [List.take_zero,List.drop_zero,Nat.pow_zero,Nat.one_mul,ai,Nat.zero_add] at m p;obtain ⟨u,v⟩:=yz (ai xs) (ai ys) (2^s) (ai qs) (ai us) (Nat.two_pow_pos s) (by rw [<- n];exact m) (by rw [<- n];exact p);have l:=bw sv;have t:=(q9 us ys.length (ai vs) m (by rw [<- r];exact Nat.le_of_lt l) O).2;rw [t,v] at n5;refine ⟨f,h,rfl,by rw [<- u];exact n1.mono O,(n5.base o.size).mono i,aa o g9,fun k q=>?_⟩;rw [n2] at q;cases q
 exact j
theorem ue (va vb:Value) (xs ys:List Nat) (w:World) (ha:Ws w va xs) (hb:Ws w vb ys) (tx:Tr xs) (ty:Tr ys) (hy:1<ys.length) (hf:ai ys<=ai xs) (hl:xs.length<=9000000000000) (hK:ys.length<=xs.length) :
  Calls Tryz.prog 146 #[va,vb] w fun e w'=>gO w (ai xs) (ai ys) xs.length e w':=by
 obtain ⟨ao,ca,ea,kz,hC,Ha⟩:=ha.open;obtain ⟨bo,cb,eb,kF,hF,Hb⟩:=hb.open;unfold maxLen at hC hF;have kb:(((ys.length:Nat):Int)==1)=false:=zB O;obtain ⟨t,A,hX⟩:=yi ty (by intro e;rw [e] at hy;simp at hy);obtain ⟨b,off,rfl,kH,m⟩:=Hb (ys.length-1) O;rw [(zY A).2] at m;have hL:t<4294967296:=by
  have:=hb.sm.get (ys.length-1) O;rw [(zY A).2] at this;exact this
 obtain ⟨j1,j2,j3,j4⟩:=mI t hX hL;obtain ⟨s,hs⟩:=eX (32-Lib.bitLen t);have es:(32-(Lib.bitLen t:Int))=(s:Int):=O
 have o:s<32:=O
 have HT:=ab (And.intro A (And.intro j3 j4));have HJ:=ab (And.intro j1 j2);have HS:=ab hs;have ES:=ab es;have WA:=ab ha;have WB:=ab hb;have TX:=ab tx;have TY:=ab ty;have hj:=ab hf;subst ea eb;clear Ha Hb ha hb tx ty hf A j3 j4 j1 j2 hs es;go_enter Tryz.func146,Tryz.ntmps146
 go_wp2_with fail;refine (fU _ _ xs ys _ WA WB TX TY).mono ?_;rintro e w1 ⟨rfl,q1,rfl⟩;have hk:=mV hj;generalize gG (ai xs) (ai ys)=o1 at hk ⊢;go_wp2_with fail;refine (Tryz.bits_LeadingZeros32 (t:Int) _ O O).mono ?_;rintro e w2 ⟨rfl,rfl⟩;rw [Int.toNat_natCast,ES];go_wp2_with fail;refine (vj _ xs s _ (WA.keep0 (aP _)) o O).mono ?_;rintro e w3 ⟨us,rfl,u1,u2,u3,u4,g3⟩;have G3:=ab (aa (aP _) g3);have hM:w.heap.size<=(w.drewN q1).heap.size:=zL;generalize (w.drewN q1).heap.size=gu at *;have U3:=ab u3;have U2:=ab u2;have U1:=ab u1;have U4:=ab u4;clear u1 u2 u3 u4 g3 ES;go_wp2_with fail;refine (vj _ ys s _ (WB.keep0 G3) o O).mono ?_;rintro e w4 ⟨vr,rfl,v1,v2,v3,v4,g4⟩;have kl:gu<w3.heap.size:=U3.out.lt;generalize w3.heap.size=gv at *;have G4:=ab (aa G3 g4);have hm:=ab (U3.keep g4 Z);have L:=v3.ws v2 (by rw [v1];unfold maxLen;omega);rw [v1] at L;have ho:=ab L;have V1:=ab v1;have V4:=ab v4;clear v1 v2 v3 v4 g4 L G3 U3;go_wp2_with fail;refine (fE _ vr _ ho).mono ?_;rintro e w5 ⟨dv,rfl,rfl,⟨vs,d1,d2,d3,d4⟩,d5⟩;have M:ai vs=ai ys*2^s:=by rw [d3];exact V4
 obtain ⟨I,tt,hH,q⟩:=uP ys vs t (Lib.bitLen t) s HS HJ.1 HJ.2 WB.sm O HT.1 HT.2.1 HT.2.2 d1.sm d2 M;have hp:ar dv=some gv:=by rw [d5];rfl
 obtain ⟨S,T,rfl,kk,hI,U⟩:=d1.open;clear U;unfold maxLen at hI;have kc:vs.length<=ys.length:=O
 have kf:ys.length<=vs.length:=O
 have D1:=ab d1;have hq:=ab I;have hN:=ab M;have N:=ab hH;have l:=ab hp;clear d1 d2 d3 d4 d5 M I hH hp ho V1 V4 HT HJ HS;go_wp2_with (at_make;refine aC _ rfl _ _ 79 rfl Tryz.underlying79 Tryz.info32 _ _ _ _ (xs.length-ys.length+1) rfl rfl O O O ?_)
 intro w6 H y;have ko:gv<w5.heap.size:=by
  have:=D1.out.blk gv l;exact this
 generalize w5.heap.size=gq at *;have G6:=ab (aa G4 y);have U6:=ab (hm.keep y Z);have D6:=ab (D1.keep0 y);have Q6:=ab H;clear H y G4 hm D1;have hQ:∃ n,vs.length=n+2:=⟨vs.length-2,O⟩;obtain ⟨n,hn⟩:=hQ;have hu:2147483648<=vs.getD (n+1) 0:=by
  have:=N.out;rw [hn,show n+2-1=n+1 from O] at this;simp only [List.getD,this,Option.getD_some];exact q
 have D0:Hid (dw w w6 gu gq vs (xs.length+1) (ai xs*2^s) (xs.length-ys.length+1) us []):=by
  have h1:=dw.start (w:=w) (wr:=w6) (gu:=gu) (gq:=gq) (vs:=vs) (us:=us) (X:=ai xs) (s:=s) U2 U4 (by rw [U1,Nat.add_sub_cancel];exact bw WA.sm) o tt O (by have:=U1.out;omega) N q U6 (by rw [U1,show xs.length+1-vs.length=xs.length-ys.length+1 from O];exact Q6) G6;rw [U1,show xs.length+1-vs.length=xs.length-ys.length+1 from O] at h1;exact h1
 have HN:=ab hn;clear hn U1 U2 U4 U6 Q6 G6 q N hj;go_wp2;go_loopw [12] (fun iv wr=>DivR w gu gq (.slice S vs.length T) vs (xs.length+1) (ai xs*2^s) iv wr) (fun iv _=>(intOf iv+1).toNat)
 case atStart=>exact ⟨(xs.length:Int)-ys.length,O,O,zN,D6,us,[],by rw [show ((xs.length:Int)-ys.length+1).toNat=xs.length-ys.length+1 from O];exact D0⟩
 case round =>
  clear D0 D6;obtain ⟨z,kN,qb,rfl,i,HD⟩:=hrel;by_cases h0:z<0
  ·obtain ⟨us,qs,V⟩:=HD.out;rw [show (z+1).toNat=0 from O] at V;have f:=ab V;clear HD V;have ql:qs.length=xs.length-ys.length+1:=by obtain ⟨J,i2,_⟩:=f.out;omega
   have wq:Ws wr (.slice (some ⟨gq,0,none⟩) (xs.length-ys.length+1) (xs.length-ys.length+1)) qs:=by
    obtain ⟨J,i2,B,i4,K,C,i7,i8,i9⟩:=f.out;rw [List.replicate_zero,List.nil_append] at C;have:=C.ws i4 (by unfold maxLen;omega);rw [ql] at this;exact this
   have wu:Ws wr (.slice (some ⟨gu,0,none⟩) ys.length (xs.length+1)) (us.take ys.length):=by
    obtain ⟨J,i2,B,i4,K,C,i7,i8,i9⟩:=f.out;have:=Ws.sub (n:=ys.length) (cap:=xs.length+1) (j:=0) K B O O (by unfold maxLen;omega);exact this
   have hv:(us.take ys.length).length=ys.length:=by
    obtain ⟨J,_⟩:=f.out;rw [List.length_take];omega
   have WQ:=ab wq;have WU:=ab wu;have QL:=ab ql;have hw:=ab hv;have SV:=ab i.sm;clear wq wu ql hv i m;go_wp2_with fail;go_region_with (first
    | (go_at_call 117;refine (fE _ qs _ (WQ.keep0 (aP _))).mono ?_;rintro e w8 ⟨q',rfl,rfl,n1,n2⟩)
    | (go_at_call 179;refine (AM _ (us.take ys.length) s _ (WU.keep0 (aP _)) o (by rw [hw];omega)).mono ?_;rintro e w9 ⟨r',rfl,n5,g9⟩))
   all_goals
    obtain ⟨qo,qc,ql,rfl⟩:∃ qo qc ql,q'=.slice qo ql qc:=by
     obtain ⟨_,o1,_⟩:=n1;obtain ⟨qo,qc,e,_⟩:=o1.open;exact ⟨_,_,_,e⟩
    obtain ⟨ro,rc,rl,rfl⟩:∃ ro rc rl,r'=.slice ro rl rc:=by
     obtain ⟨_,o1,_⟩:=n5;obtain ⟨ro,rc,e,_⟩:=o1.open;exact ⟨_,_,_,e⟩
    have N1:=ab (n1.keep0 g9);have N2:=ab n2;have N5:=ab n5;have G9:=ab g9;clear n1 n2 n5 g9;go_wp2;go_ret2
    refine wV hN f hq hK O N1 N2 ?_ (aa (aP _) G9) O SV;have h5:=N5.out;rw [hw] at h5;exact h5
  ·obtain ⟨j,rfl⟩:∃ j:Nat,z=j:=⟨z.toNat,O⟩;obtain ⟨us,qs,V⟩:=HD.out;rw [show ((j:Int)+1).toNat=j+1 from O] at V;have f:=ab V;clear V HD m;go_wp2_with fail;rw [show j+vs.length+1-j=vs.length+1 from O];obtain ⟨J,i2,B,i4,K,C,i7,i8,i9⟩:=f.out;have hx:=mE (us:=us) (vs:=vs) (j:=j) i.sm B O i8;have F:=Ws.sub (n:=vs.length+1) (cap:=xs.length+1-j) (j:=j) K B O O (by unfold maxLen;omega);have I5:=ab K;have I3:=ab B;have I1:=ab J;have P:=ab hx;have G:=ab F;clear J i2 B i4 K C i7 i8 i9 hx F;refine (CM _ _ ((us.drop j).take (vs.length+1)) vs n _ G i HN (by rw [List.length_take,List.length_drop];have:=HN.out;have:=I1.out;omega) hu (by rw [P.1];exact P.2.1)).mono ?_;intro e wa hG;obtain ⟨g,qa,rfl,hJ,Y,he,rfl⟩:=hG;rw [P.1] at Y he;have hR:=ab Y;have hS:=ab he;clear Y he G;go_wp2_with fail;refine (vV gu j (xs.length+1-j) us vs _ g _ (I5.keep (aP _) Z) (i.keep0 (aP _)) I3 (by rw [l];intro e;have:=zJ e;omega) (by have:=I1.out;omega) hJ (by have:=I1.out;omega) O (by unfold maxLen;omega) O).mono ?_;intro e wt hT;obtain ⟨E,hE,rfl,D⟩:=hT;have u:=ab D;have hz:=dw.round (w:=w) (wr:=wr) (wt:=wt) f i.sm hM O O hR hS hJ (by obtain ⟨W,t1,t2,t3,t4,t5⟩:=D;exact ⟨W,t1,t2,t3,aw (r1:=none) (r2:=some gu) (aP _) t4 nofun (fun _ _ e=>e),t5⟩) hE
   have x:=ab hz;have hvt:Hid (Ws wt (.slice S vs.length T) vs):=by
    obtain ⟨W,t1,t2,t3,t4,t5⟩:=D;exact (i.keep0 (aP _)).keep t4 (fun k e h=>by rw [l] at h;cases e;have:=zJ h;omega)
   clear D hz i;by_cases hA:E=0
   ·subst hA;have hB:=x.out.1 rfl;have Q:=ab hB;obtain ⟨r,hY⟩:(∃ v,wt.cell? ⟨gq,j,none⟩=some v)/\wt.frozen? ⟨gq,j,none⟩=false:=by
     obtain ⟨J,i2,B,i4,K,C,i7,i8,i9⟩:=f.out;obtain ⟨W,t1,t2,t3,t4,t5⟩:=u.out;have a2:bW wt gq (List.replicate (j+1) 0++qs):=(C.keep (aP _) Z).keep t4 (fun e=>by have:=zJ e;omega);exact ⟨⟨_,a2.cell j (by simp;omega)⟩,a2.free j⟩
    obtain ⟨v0,r⟩:=r;clear hB x u;go_wp2;go_roundw
    case rel =>
     refine ⟨(j:Int)-1,O,O,zN,?_,?_⟩
     ·exact hvt.keep (row:=some gq) ⟨rfl,rfl,rfl,Z,fun k _ hr=>heap_setCell_other _ _ _ _ (fun e=>hr (by rw [e]))⟩ (fun k e h=>by rw [l] at h;cases e;have:=zJ h;omega)
     ·rw [show ((j:Int)-1+1).toNat=j from O];exact Q _ O
    case measure=>simp [intOf]
   ·obtain rfl:E=1:=O
    clear hA;obtain ⟨qf,ka,R,r1,r2,r3,r4,r5,r6⟩:=x.out.2 rfl;have R1:=ab r1;have R2:=ab r2;have R3:=ab r3;have R4:=ab r4;have R5:=ab r5;have R6:=ab r6;clear r1 r2 r3 r4 r5 r6 x;go_wp2_with fail;refine (uk gu j (xs.length+1-j) R ka vs _ _ R1 hvt R2 (by rw [l];intro e;have:=zJ e;omega) (by have:=R3.out;omega) (by have:=R3.out;omega) O (by unfold maxLen;omega) R4 R5).mono ?_;rintro e wg ⟨rfl,p⟩;have Q:=ab (R6 wg p);obtain ⟨r,hY⟩:(∃ v,wg.cell? ⟨gq,j,none⟩=some v)/\wg.frozen? ⟨gq,j,none⟩=false:=by
     obtain ⟨J,i2,B,i4,K,C,i7,i8,i9⟩:=f.out;obtain ⟨W,t1,t2,t3,t4,t5⟩:=u.out;obtain ⟨W2,k1,k2,k3,k4,k5⟩:=p;have a2:bW wg gq (List.replicate (j+1) 0++qs):=((C.keep (aP _) Z).keep t4 (fun e=>by have:=zJ e;omega)).keep k4 (fun e=>by have:=zJ e;omega);exact ⟨⟨_,a2.cell j (by simp;omega)⟩,a2.free j⟩
    obtain ⟨v0,r⟩:=r;have hW:Hid (Ws wg (.slice S vs.length T) vs):=by
     obtain ⟨W2,k1,k2,k3,k4,k5⟩:=p;exact hvt.keep k4 (fun k e h=>by rw [l] at h;cases e;have:=zJ h;omega)
    clear p R6 u;go_wp2;go_roundw
    case rel =>
     refine ⟨(j:Int)-1,O,O,zN,?_,?_⟩
     ·exact hW.keep (row:=some gq) ⟨rfl,rfl,rfl,Z,fun k _ hr=>heap_setCell_other _ _ _ _ (fun e=>hr (by rw [e]))⟩ (fun k e h=>by rw [l] at h;cases e;have:=zJ h;omega)
     ·rw [show ((j:Int)-1+1).toNat=j from O];exact Q _ O
    case measure=>simp [intOf]
theorem wX (f g:Value) (X Y L M:Nat) (w:World) (ha:aQ w f X L) (hb:aQ w g Y M) (hy:0<Y) (A:L<=9000000000000) :
  Calls Tryz.prog 146 #[f,g] w fun e w'=>gO w X Y L e w':=by
 obtain ⟨xs,n,p,v,s⟩:=ha;obtain ⟨ys,h,i,j,B⟩:=hb;have o:Calls Tryz.prog 146 #[f,g] w fun e w'=>gO w (ai xs) (ai ys) xs.length e w':=by
  by_cases l:ai xs<ai ys
  ·exact ud f g xs ys w n h p i l O
  ·by_cases m:1<ys.length
   ·exact ue f g xs ys w n h p i m O O (ly h.sm i n.sm O)
   ·match ys,h,i,j,l,m with
    | [],_,_,j,_,_=>simp [ai] at j;omega
    | [y],h,i,j,l,_=>exact wW f g xs y w n h p i (by simp [ai] at l;omega) O
    | _ :: _ :: _,_,_,_,_,m=>simp at m
 refine o.mono ?_;rintro e w' ⟨q,r,rfl,t,u,x,z⟩;rw [v,j] at t u;exact ⟨q,r,rfl,t.mono s,u.mono s,x,z⟩
theorem jn (f g:Value) (X Y L M:Nat) (w:World) (ha:aQ w f X L) (hb:aQ w g Y M) (hy:0<Y) (i:L<=9000000000000) :
  Calls Tryz.prog 146 #[f,g] w fun e w'=>Divided w X Y L e w':=by
 refine (wX f g X Y L M w ha hb hy i).mono ?_;rintro e w' ⟨q,r,rfl,j,h,l,m⟩;exact ⟨q,r,rfl,j,h.num,l,m,fun k n=>(h.fresh k n).1⟩
def oG (n k:Nat):Prop:=(n=0/\k=0)∨(1<=k/\2^(k-1)<=n/\n<2^k)
theorem zb (k:Nat):4294967296^k=2^(32*k):=by rw [Nat.pow_mul]
theorem Ez {t:Nat} (h:Sm xs) (i:0<xs.length) (j:xs[xs.length-1]? = some t) (l:0<t):oG (ai xs) (32*(xs.length-1)+Lib.bitLen t):=by
 obtain ⟨hlt,f⟩:=zY j;have e:=h.get _ hlt;rw [f] at e;obtain ⟨q,r,o,p⟩:=mI t l e;have m:=au xs (xs.length-1) hlt;rw [zT O,f] at m;have g:=bw (h.take (xs.length-1));rw [List.length_take,show min (xs.length-1) xs.length=xs.length-1 from O] at g;refine .inr ⟨O,?_,?_⟩
 ·rw [show 32*(xs.length-1)+Lib.bitLen t-1=32*(xs.length-1)+(Lib.bitLen t-1) from O,Nat.pow_add,<- zb];have:=Nat.mul_le_mul_left (4294967296^(xs.length-1)) o;omega
 ·rw [Nat.pow_add,<- zb];have n:4294967296^(xs.length-1)*(t+1)<=4294967296^(xs.length-1)*2^Lib.bitLen t:=Nat.mul_le_mul_left _ p;rw [Nat.mul_add,Nat.mul_one] at n;omega
def BC (w:World) (n L:Nat) (e:Ending) (w':World):Prop:=∃ k:Nat,e=.returned (.int .i64 k)/\oG n k/\k<=32*L/\w'=w
theorem lN (u:Value) (n L:Nat) (w:World) (ha:aQ w u n L) (M:L<=10000000000000) :
  Calls Tryz.prog 107 #[u] w fun e J=>BC w n L e J:=by
 obtain ⟨xs,h,q,l,C⟩:=ha;obtain ⟨N,P,rfl,D,i,r⟩:=h.open;unfold maxLen at i;by_cases o:xs.length=0
 ·have e:xs=[]:=List.eq_nil_of_length_eq_zero o;subst e;have p:Hid (BC w n L (.returned (.int .i64 ((0:Nat):Int))) w):=⟨0,rfl,.inl ⟨l.symm,rfl⟩,O,rfl⟩;clear h q l C r;go_enter Tryz.func107,Tryz.ntmps107
  go_wp2;go_ret;exact p
 ·obtain ⟨t,m,v⟩:=yi q (by intro e;rw [e] at o;simp at o);obtain ⟨b,off,rfl,hb,hc⟩:=r (xs.length-1) O;rw [(zY m).2] at hc;have g:=h.sm.get (xs.length-1) O;rw [(zY m).2] at g;obtain ⟨E,F,G,H⟩:=mI t v g;have f:=Ez h.sm O m v;have x:(((xs.length:Nat):Int)==0)=false:=zB O;obtain ⟨j,I⟩:∃ j,xs.length=j+1:=⟨xs.length-1,O⟩;have y:w.cell? ⟨b,off+j,none⟩=some (.int .u32 (t:Nat)):=by
   rw [show j=xs.length-1 from O];exact hc
  obtain ⟨K,s⟩:=eX (Lib.bitLen t);rw [<- s] at E F f;have p:Hid (BC w n L (.returned (.int .i64 ((32*(xs.length-1)+K:Nat):Int))) w):=⟨_,rfl,by rw [<- l];exact f,O,rfl⟩;have z:=ab I;have A:=ab s;clear h q l r hc m G H f s;go_enter Tryz.func107,Tryz.ntmps107
  go_wp2_with fail;refine (Tryz.bits_Len32 (t:Int) _ O O).mono ?_;rintro e Q ⟨rfl,rfl⟩;rw [Int.toNat_natCast,<- A];go_wp2;go_ret;have:=p.out;have B:(((32*(xs.length-1)+K:Nat):Int))=32*(j:Int)+K:=by have:=z.out;omega
  rw [B] at this;exact this
theorem pr (a b:Nat) (ha:a<9223372036854775808) (hb:b<9223372036854775808):bits .or .i64 (a:Int) (b:Int)=((a ||| b:Nat):Int):=by
 have e:a ||| b<2^63:=Nat.or_lt_two_pow O O
 show IntKind.i64.wrap ((BitVec.ofInt 64 (a:Int) ||| BitVec.ofInt 64 (b:Int)).toNat:Int)=_
 rw [BitVec.toNat_or,ofInt_u64 a O,ofInt_u64 b O];rw [IntWalk.i64_in _ ⟨O,O⟩]
theorem DB (r x:Nat) (f:r<2147483648) (g:x<4294967296):bits .or .i64 ((r:Int)*4294967296) (x:Int)=((r*4294967296+x:Nat):Int):=by
 have h:=pr (r*4294967296) x O O;rw [Int.natCast_mul] at h;have e:(r*4294967296) ||| x=r*4294967296+x:=nat_join 32 _ _ O O
 rw [e] at h;exact h
theorem CE (xs:List Nat) (lo s:Nat) (g:Sm xs) (f:lo<xs.length) (i:s<32):ai xs / 2^(32*lo+s)=ai (xs.drop (lo+1))*2^(32-s)+xs[lo] / 2^s/\xs[lo] / 2^s<2^(32-s):=by
 have h:=g.get lo f;have p:2^s*2^(32-s)=4294967296:=by rw [<- Nat.pow_add,show s+(32-s)=32 from O]
 constructor
 ·rw [Nat.pow_add,<- Nat.div_div_eq_div_mul,<- zb,kq xs lo g O,cN xs lo];have e:xs.getD lo 0=xs[lo]:=by simp [f]
  rw [e,<- p,Nat.mul_assoc,Nat.add_mul_div_left _ _ (Nat.two_pow_pos s),Nat.mul_comm (ai _),Nat.add_comm]
 ·rw [Nat.div_lt_iff_lt_mul (Nat.two_pow_pos s),Nat.mul_comm,p];exact h
theorem At (s x o V:Nat) (g:s<32) (hV:V=o*2^(32-s)+x / 2^s) (f:x / 2^s<2^(32-s)) (hb:V<4611686018427387904) :
  ∃ T p r:Nat,1<=T/\T<=32/\32-(s:Int)=(T:Int)/\(o:Int)*2^T=(p:Int)/\(x:Int) / 2^s=(r:Int)/\bits .or .i64 (p:Int) (r:Int)=(V:Int)/\p<=V/\r<=V/\V<4611686018427387904:=by
 have e:o*2^(32-s) % 2^(32-s)=0:=by rw [Nat.mul_mod_left]
 refine ⟨32-s,o*2^(32-s),x / 2^s,O,O,O,?_,mn x s,?_,?_,?_,hb⟩
 ·rw [Int.natCast_mul,Int.natCast_pow];rfl
 ·have j:=nat_join (32-s) _ _ e f;generalize o*2^(32-s)=p at *;generalize x / 2^s=r at *;clear f e;rw [pr _ _ O O,j,hV]
 ·rw [hV];exact Nat.le_add_right _ _
 ·rw [hV];exact Nat.le_add_left _ _
def FromR (xs:List Nat) (lo:Nat) (ov iv:Value):Prop:=∃ (z:Int) (o:Nat),lo<=z/\z<xs.length/\iv=.int .i64 z/\ov=.int .i64 (o:Nat)/\Hid (o=ai (xs.drop (z+1).toNat))
theorem yB (xs:List Nat) (i j:Nat) (h:i<=j) (g:j<=xs.length) (f:Sm xs):ai (xs.drop j)<=ai (xs.drop i):=by
 have e:xs.drop j=(xs.drop i).drop (j-i):=by rw [List.drop_drop];congr 1;omega
 rw [e,<- kq (xs.drop i) (j-i) (f.drop i) (by rw [List.length_drop];omega)];exact Nat.div_le_self _ _
theorem ir (S:Value) (xs:List Nat) (f:Nat) (w:World) (ha:Ws w S xs) (hb:ai xs / 2^f<4611686018427387904) (U:f<=400000000000000) :
  Calls Tryz.prog 152 #[S,.int .i64 (f:Nat)] w fun e w'=>e=.returned (.int .i64 ((ai xs / 2^f:Nat):Int))/\∃ q,w'=w.drewN q:=by
 obtain ⟨ao,ca,rfl,hm,B,E⟩:=ha.open;unfold maxLen at B;obtain ⟨lo,C⟩:=eX (f / 32);obtain ⟨s,hs⟩:=eX (f % 32);have i:s<32:=O
 have l:f=32*lo+s:=O
 have W:((f:Nat):Int) / 32=(lo:Int):=O
 have X:((f:Nat):Int) % 32=(s:Int):=O
 have d1:((f:Nat):Int).tdiv 32=(lo:Int):=by rw [Int.tdiv_eq_ediv_of_nonneg O];exact W
 have d2:((f:Nat):Int).tmod 32=(s:Int):=by rw [Int.tmod_eq_emod_of_nonneg O];exact X
 by_cases G:lo<xs.length
 ·obtain ⟨f1,L⟩:=CE xs lo s ha.sm G i;rw [<- l] at f1;rw [f1];rw [f1] at hb;have H:=ab hb;have Y:=ab E;have D:=ab ha.sm;have v:ai (xs.drop (lo+1))<2305843009213693952:=by
   have p:2<=2^(32-s):=by
    have:=Nat.pow_le_pow_right (n:=2) zD (show 1<=32-s by omega);omega
   have:=Nat.mul_le_mul_left (ai (xs.drop (lo+1))) p;generalize xs[lo] / 2^s=r at hb;omega
  have m:=ab v;obtain ⟨b,off,rfl,hp,u⟩:=E lo G;obtain ⟨x,ex⟩:=eX (xs[lo]);have hx:=ha.sm.get lo G;rw [<- ex] at u hx L ⊢;rw [<- ex] at H;have F2:=ab L;obtain ⟨V,hV⟩:=eX (ai (xs.drop (lo+1))*2^(32-s)+x / 2^s);rw [<- hV];have I:=ab hV;clear E ha hb f1 L C hs l v ex hV;go_enter Tryz.func152,Tryz.ntmps152
  go_wp2;clear W X d1 d2;go_loop [7,8] (fun ov iv=>Hid (FromR xs lo ov iv)) (fun _ iv=>(intOf iv).toNat-lo)
  case atStart=>exact ⟨(xs.length:Int)-1,0,O,O,zN,rfl,by rw [show ((xs.length:Int)-1+1).toNat=xs.length from O,List.drop_of_length_le zL];rfl⟩
  case round =>
   obtain ⟨z,o,hq,hr,rfl,rfl,F⟩:=hrel.out;clear hrel;obtain ⟨j,rfl⟩:∃ j:Nat,z=j:=⟨z.toNat,O⟩;have ho:o<2305843009213693952:=by
    have h:=F.out;rw [show ((j:Int)+1).toNat=j+1 from O] at h;have h2:=yB xs (lo+1) (j+1) O O D;have:=m.out;omega
   by_cases hj:lo<j
   ·obtain ⟨b',he,e,hu,N⟩:=Y.out j O;simp only [zI,Addr.mk.injEq,and_true] at e;obtain ⟨rfl,rfl⟩:=e;obtain ⟨y,Q⟩:=eX (xs[j]'O);have hy:=D.out.get j O;rw [<- Q] at N hy;have g:o*4294967296+y=ai (xs.drop j):=by
     have h:=F.out;rw [show ((j:Int)+1).toNat=j+1 from O] at h;rw [cN xs j,<- h,show xs.getD j 0=y from by rw [Q];simp [show j<xs.length from O]];omega
    have J:o<2147483648:=by
     have h2:=yB xs (lo+1) j O O D;have:=m.out;omega
    obtain ⟨P,hP⟩:∃ P:Nat,P=o*4294967296:=⟨_,rfl⟩;obtain ⟨M,R⟩:∃ M:Nat,M=o*4294967296+y:=⟨_,rfl⟩;have K:(o:Int)*4294967296=(P:Int):=O
    have hf:P<9223372036854775808:=O
    have hk:M<9223372036854775808:=O
    have t:=ab (DB o y J hy);rw [<- R] at t;rw [K] at t;rw [<- R] at g;clear hP R;have HS:=ab g;clear g Q;go_wp2;go_round
    case rel=>exact ⟨(j:Int)-1,M,O,O,zN,congrArg (Value.int .i64) t,by rw [show ((j:Int)-1+1).toNat=j from O];exact HS⟩
    case measure=>simp [intOf];omega
   ·obtain rfl:j=lo:=O
    have A:Hid (o=ai (xs.drop (j+1))):=by
     have h:=F.out;rw [show ((j:Int)+1).toNat=j+1 from O] at h;exact h
    obtain ⟨T,p,r,t1,t2,t3,t4,t5,t6,t7,t8,t9⟩:=At s x o V i (by rw [A];exact I) F2 (by rw [I];exact H);have T6:=ab t6;clear H m F A I F2 Y D t6;go_wp2;go_quiet (fail)
    go_wp2;go_ret;exact ⟨congrArg (fun z=>Ending.returned (Value.int .i64 z)) T6,_,by first | rfl | (simp only [World.drewN_drewN];rfl)⟩
 ·have hz:ai xs / 2^f=0:=by
   apply Nat.div_eq_of_lt;have h:=bw ha.sm;rw [zb] at h;exact Nat.lt_of_lt_of_le h (Nat.pow_le_pow_right zD O)
  rw [hz];clear E ha hb C hs l hz;go_enter Tryz.func152,Tryz.ntmps152
  go_wp2;go_ret;exact ⟨rfl,0,rfl⟩
def lK (w wr:World) (xs ys:List Nat) (a b:Int) (k:Nat) (c:Int):Prop :=
 ∃ done:List Nat,done.length=k/\Sm done/\bW wr w.heap.size (done++List.replicate (xs.length-k) 0)/\w.grownBy wr none /\
  (ai done:Int)+(4294967296^k:Nat)*c=a*(ai (xs.take k):Nat)+b*(ai (ys.take k):Nat)
theorem cO (ys:List Nat) (k:Nat):ai (ys.take (k+1))=ai (ys.take k)+4294967296^k*ys.getD k 0:=by
 by_cases h:k<ys.length
 ·rw [au ys k h];simp [h]
 ·rw [zT O,zT O];simp [List.getD,h]
theorem Cd (D p c a b X x Y y t:Int) (h:D+p*c=a*X+b*Y) (e:t=c+a*x+b*y):D+p*t=a*(X+p*x)+b*(Y+p*y):=by
 subst e;have f:a*(X+p*x)=a*X+p*(a*x):=by rw [Int.mul_add,Int.mul_left_comm]
 have g:b*(Y+p*y)=b*Y+p*(b*y):=by rw [Int.mul_add,Int.mul_left_comm]
 rw [f,g,Int.mul_add,Int.mul_add];omega
theorem lK.step (h:lK w wr xs ys a b k c) (l:k<xs.length) (x y:Nat) (n:x=xs[k]) (hy:y=ys.getD k 0) (t z:Int) (o:t=c+a*x+b*y) (s:z=t % 4294967296) :
  lK w (wr.setCell ⟨w.heap.size,k,none⟩ (.int .u32 z)) xs ys a b (k+1) (t / 4294967296):=by
 obtain ⟨done,g,u,v,A,j⟩:=h;obtain ⟨r,B⟩:∃ r:Nat,(r:Int)=t % 4294967296:=⟨(t % 4294967296).toNat,O⟩;have f:r<4294967296:=O
 refine ⟨done++[r],by simp [g],u.append (Sm.cons f Sm.nil),?_,ah A _ _ zL,?_⟩
 ·have:=v.set k r;rw [s,<- B];have e:(done++List.replicate (xs.length-k) 0).set k r=(done++[r])++List.replicate (xs.length-(k+1)) 0:=by
   obtain ⟨m,C⟩:∃ m,xs.length-k=m+1:=⟨xs.length-k-1,O⟩;rw [C,show xs.length-(k+1)=m from O];subst g;rw [List.set_append_right _ _ zL];simp [List.replicate_succ]
  rw [e] at this;exact this
 ·rw [aO,g,au xs k l,<- n,cO ys k,<- hy];rw [Int.natCast_add,Int.natCast_add,Int.natCast_add,Int.natCast_mul,Int.natCast_mul,Int.natCast_mul,Nat.pow_succ,Int.natCast_mul];generalize ((4294967296^k:Nat):Int)=p at j ⊢;have e:=Cd _ p c a b _ (x:Int) _ (y:Int) t j o;rw [<- e];have i:t=r+4294967296*(t / 4294967296):=O
  generalize t / 4294967296=q at i ⊢;rw [i,Int.mul_add,Int.mul_assoc];simp only [Int.add_assoc];rfl
theorem zd (a:Int) (x:Nat) (e:-1073741824<a) (f:a<1073741824) (g:x<4294967296):-4611686014132420609<=a*(x:Int)/\a*(x:Int)<=4611686014132420609:=by
 have h:a*(x:Int)<=1073741823*(x:Int):=Int.mul_le_mul_of_nonneg_right O O;have i:-1073741823*(x:Int)<=a*(x:Int):=Int.mul_le_mul_of_nonneg_right O O;omega
def qK (w:World) (n L:Nat) (e:Ending) (w':World):Prop:=∃ v',e=.returned v'/\aQ w' v' n L/\w.grownBy w' none/\bn w v'
theorem Ce {u:Int} (h:lK w wr xs ys a b xs.length c) (e:ys.length<=xs.length) (m:u=a*(ai xs:Nat)+b*(ai ys:Nat)) (o:0<=u) (p:u<(4294967296^xs.length:Nat)) :
  ∃ done:List Nat,done.length=xs.length/\Sm done/\bW wr w.heap.size done/\w.grownBy wr none/\ai done=u.toNat:=by
 obtain ⟨done,g,i,j,n,l⟩:=h;rw [Nat.sub_self,List.replicate_zero,List.append_nil] at j;refine ⟨done,g,i,j,n,?_⟩;rw [zT zL,zT e,<- m] at l;have hd:=bw i;rw [g] at hd;have f:(0:Int)<(4294967296^xs.length:Nat):=by
  have:0<4294967296^xs.length:=Nat.pow_pos zD;omega
 generalize hP:(4294967296^xs.length:Nat)=P at *;have hc:c=0:=by
  rcases Int.lt_trichotomy c 0 with h | h | h
  ·have:=Int.mul_le_mul_of_nonneg_left (show c<=-1 by omega) (Int.le_of_lt f);omega
  ·exact h
  ·have:=Int.mul_le_mul_of_nonneg_left (show 1<=c by omega) (Int.le_of_lt f);omega
 rw [hc,Int.mul_zero] at l;omega
def CombR (w:World) (xs ys:List Nat) (a b:Int) (cv iv:Value) (wr:World):Prop:=∃ (k:Nat) (c:Int),k<=xs.length/\-2147483648<=c/\c<=2147483648/\iv=.int .i64 k/\cv=.int .i64 c/\lK w wr xs ys a b k c
theorem oU (I J:Value) (xs ys:List Nat) (a b u:Int) (w:World) (ha:Ws w I xs) (hb:Ws w J ys) (z:ys.length<=xs.length) (a1:-1073741824<a) (a2:a<1073741824) (b1:-1073741824<b) (b2:b<1073741824) (K:u=a*(ai xs:Nat)+b*(ai ys:Nat)) (h0:0<=u) (l:u<=(ai xs:Nat)) (hl:xs.length<=10000000000000) :
  Calls Tryz.prog 151 #[I,J,.int .i64 a,.int .i64 b] w fun e w'=>qK w u.toNat xs.length e w':=by
 obtain ⟨ao,ca,rfl,ho,o,Q⟩:=ha.open;obtain ⟨bo,cb,rfl,hp,p,R⟩:=hb.open;unfold maxLen at o p;have HA:=ab Q;have HB:=ab R;have L:=ab ha.sm;have SB:=ab hb.sm;have HU:=ab K;have H1:=ab l;clear Q ha R hb K l;go_enter Tryz.func151,Tryz.ntmps151
 go_wp2_with (at_make;refine aC _ rfl _ _ 79 rfl Tryz.underlying79 Tryz.info32 _ _ _ _ xs.length rfl rfl O O O ?_)
 intro w1 i n;have HR:=ab i;have HG:=ab n;clear i n;go_wp2;go_loopw [10,18] (fun cv iv wr=>Hid (CombR w xs ys a b cv iv wr)) (fun _ iv _=>xs.length-(intOf iv).toNat)
 case atStart=>exact ⟨0,0,Nat.zero_le _,O,O,rfl,rfl,[],rfl,Sm.nil,by simpa using HR.out,HG,by simp [ai]⟩
 case round =>
  obtain ⟨k,c,hk,hq,hr,rfl,rfl,q⟩:=hrel.out;have s:=ab q;clear hrel q;by_cases hlt:k<xs.length
  ·obtain ⟨b',off,rfl,hs,g⟩:=aF HA k hlt;have M:=(aF L).get k hlt;obtain ⟨x,ex⟩:=eX (xs[k]);rw [<- ex] at g M;have N:=ab ex;clear ex;obtain ⟨done,l,h2,E,F,h5⟩:=s.out;have he:wr.cell? ⟨b',off+k,none⟩=some (.int .u32 (x:Nat)):=F.cell g Z;have hf:wr.frozen? ⟨w.heap.size,k,none⟩=false:=E.free k;obtain ⟨v0,hv⟩:∃ v,wr.cell? ⟨w.heap.size,k,none⟩=some v:=⟨_,E.cell k (by simp [l];omega)⟩;have A:=ab F;clear l h2 E F h5 g;obtain ⟨p1,p2⟩:=zd a x a1 a2 M;by_cases h:k<ys.length
   ·obtain ⟨G,r,rfl,S,f⟩:=aF HB k h;have hy:=(aF SB).get k h;obtain ⟨y,H⟩:=eX (ys[k]);rw [<- H] at f hy;have B:Hid (y=ys.getD k 0):=by rw [H];show _=_;simp [h]
    have hm:wr.cell? ⟨G,r+k,none⟩=some (.int .u32 (y:Nat)):=A.out.cell f Z;clear H f;obtain ⟨p3,p4⟩:=zd b y b1 b2 hy;go_wp2;go_roundw
    case rel=>exact ⟨k+1,(c+a*x+b*y) / 4294967296,O,O,O,zN,zN,s.step hlt x y N B _ _ rfl (by first | rfl | omega)⟩
    case measure=>simp [intOf];omega
   ·have B:Hid ((0:Nat)=ys.getD k 0):=by show _=_;simp [List.getD,show ¬ k<ys.length from h]
    go_wp2;go_roundw
    case rel=>exact ⟨k+1,(c+a*x) / 4294967296,O,O,O,zN,zN,s.step hlt x 0 N B _ _ Z (by first | rfl | omega)⟩
    case measure=>simp [intOf];omega
  ·obtain rfl:k=xs.length:=O
   have m:=bw L;have C:=H1.out;obtain ⟨done,t,T,U,V,W⟩:=Ce s z HU h0 O;have D:=U.ws T (by rw [t];unfold maxLen;omega);rw [t] at D;have HW:=ab D;have E1:=ab t;have E4:=ab V;have E5:=ab W;clear t T U V W D m C;go_wp2_with fail;refine (fE _ done _ HW).mono ?_;rintro e w2 ⟨v',rfl,rfl,X,Y⟩;have K1:=ab X;have K2:=ab Y;clear X Y;go_wp2;go_ret;refine ⟨v',rfl,?_,E4,?_⟩
   ·have:=K1.out;rw [E5,E1] at this;exact this
   ·intro j P;rw [K2] at P;simp [ar] at P;omega
structure iE (X Y P H N:Int) (a b c d hi nx:Int):Prop where
 hh:hi=a*H+b*N
 hn:nx=c*H+d*N
 sg:(0<=a/\b<=0/\c<=0/\0<=d)∨(a<=0/\0<=b/\0<=c/\d<=0)
 ha:-1073741824<a/\a<1073741824
 hb:-1073741824<b/\b<1073741824
 hc:-1073741824<c/\c<1073741824
 hd:-1073741824<d/\d<1073741824
 ra:0<=hi+a
 rb:0<=hi+b
 rc:0<=nx+c
 rd:0<=nx+d
 le:nx<=hi
 top:hi<=H
 g:Int.gcd (a*X+b*Y) (c*X+d*Y)=Int.gcd X Y
 v0:0<=c*X+d*Y
 vu:c*X+d*Y<=a*X+b*Y
 u0:0<a*X+b*Y
 ux:a*X+b*Y<=X
 vy:c*X+d*Y<=Y
 ds:d≠0
 bs:(a=1/\b=0/\c=0/\d=1)∨(b≠0/\c*X+d*Y<Y)
theorem iE.start {X Y P H N:Int} (e:Y<=X) (g:0<Y) (h:0<=N) (f:N<=H):iE X Y P H N 1 0 0 1 H N:=by
 refine ⟨Z,Z,Z,zD,zD,zD,zD,O,O,O,O,f,O,Z,by simp;omega,by simp;omega,by simp;omega,Z,Z,zD,Z⟩
theorem eM {P x t:Int} (hP:0<P) (e:0<=x) (f:x<P) (g:0<=t) (h:t<P) (hc:c<=0) (hd:0<=d):c*P<=c*x+d*t/\c*x+d*t<=d*P:=by
 have i:c*P<=c*x:=Int.mul_le_mul_of_nonpos_left hc O;have j:0<=d*t:=Int.mul_nonneg hd g;have l:c*x<=0:=Int.mul_nonpos_of_nonpos_of_nonneg hc e;have m:d*t<=d*P:=Int.mul_le_mul_of_nonneg_left O hd;omega
theorem yj {X Y P H N x t e:Int} (f:X=H*P+x) (g:Y=N*P+t) (hn:e=c*H+d*N):c*X+d*Y=e*P+(c*x+d*t):=by
 subst f g hn;simp only [Int.mul_add,Int.add_mul,Int.mul_assoc];omega
theorem CJ (u v q:Int):Int.gcd v (u-q*v)=Int.gcd u v:=by
 rw [Int.gcd_comm u v];apply Nat.dvd_antisymm
 ·apply Int.dvd_gcd (Int.gcd_dvd_left ..) ;have e:((Int.gcd v (u-q*v):Nat):Int)∣v:=Int.gcd_dvd_left ..;have f:((Int.gcd v (u-q*v):Nat):Int)∣u-q*v:=Int.gcd_dvd_right ..;have g:=Int.dvd_add f (Int.dvd_mul_of_dvd_right e (b:=q));rwa [Int.sub_add_cancel] at g
 ·apply Int.dvd_gcd (Int.gcd_dvd_left ..);exact Int.dvd_sub (Int.gcd_dvd_right ..) (Int.dvd_mul_of_dvd_right (Int.gcd_dvd_left ..))
theorem iE.step {X Y P H N x t hi f q:Int} (h:iE X Y P H N a b c d hi f) (hP:0<P) (p:0<=x) (l:x<P) (r:0<=t) (m:t<P) (z:X=H*P+x) (A:Y=N*P+t) (Q:Y<=X)
  (g1:f+c≠0) (g2:f+d≠0) (q1:q=(hi+a) / (f+c)) (q2:q=(hi+b) / (f+d))
  (hc':-1073741824<a-q*c/\a-q*c<1073741824) (hd':-1073741824<b-q*d/\b-q*d<1073741824) :
  iE X Y P H N c d (a-q*c) (b-q*d) f (hi-q*f)/\0<=hi-q*f/\hi-q*f<f/\0<=q/\q*f<=hi+1073741824:=by
 have I:0<f+c:=by have:=h.rc;omega
 have J:0<f+d:=by have:=h.rd;omega
 have q0:0<=q:=by rw [q1];exact Int.ediv_nonneg h.ra O
 have K:q*(f+c)+(hi+a) % (f+c)=hi+a:=by
  have:=Int.mul_ediv_add_emod (hi+a) (f+c);rw [<- q1,Int.mul_comm] at this;exact this
 have R:q*(f+d)+(hi+b) % (f+d)=hi+b:=by
  have:=Int.mul_ediv_add_emod (hi+b) (f+d);rw [<- q2,Int.mul_comm] at this;exact this
 have r1:=Int.emod_nonneg (hi+a) (Int.ne_of_gt I);have r2:=Int.emod_nonneg (hi+b) (Int.ne_of_gt J);have s1:=Int.emod_lt_of_pos (hi+a) I;have s2:=Int.emod_lt_of_pos (hi+b) J;rw [Int.mul_add] at K R;generalize (hi+a) % (f+c)=R1 at *;generalize (hi+b) % (f+d)=R2 at *
 -- the new remainders
 have eU:a*X+b*Y=hi*P+(a*x+b*t):=yj z A h.hh;have L:c*X+d*Y=f*P+(c*x+d*t):=yj z A h.hn;have M:hi-q*f=(a-q*c)*H+(b-q*d)*N:=by
  have S:=h.hh;have T:=h.hn;rw [S,T];simp only [Int.mul_add,Int.sub_mul,Int.mul_assoc];omega
 have u:(a-q*c)*X+(b-q*d)*Y=(hi-q*f)*P+((a-q*c)*x+(b-q*d)*t):=yj z A M;have B:(a-q*c)*X+(b-q*d)*Y=(a*X+b*Y)-q*(c*X+d*Y):=by
  simp only [Int.mul_add,Int.sub_mul,Int.mul_assoc];omega
 have s:(0<=c/\d<=0/\a-q*c<=0/\0<=b-q*d)∨(c<=0/\0<=d/\0<=a-q*c/\b-q*d<=0):=by
  rcases h.sg with ⟨n,o,j,i⟩ | ⟨n,o,j,i⟩
  ·right
   have:=Int.mul_nonpos_of_nonneg_of_nonpos q0 j;have:=Int.mul_nonneg q0 i;omega
  ·left
   have:=Int.mul_nonneg q0 j;have:=Int.mul_nonpos_of_nonneg_of_nonpos q0 i;omega
 have y:0<=hi-q*f/\hi-q*f<f:=O
 have C:q*f<=hi+1073741824:=by
  have:=h.ha;have:=h.hb;rcases h.sg with ⟨n,o,j,i⟩ | ⟨n,o,j,i⟩
  ·have:=Int.mul_nonneg q0 i;omega
  ·have:=Int.mul_nonneg q0 j;omega
 -- v is above 0,v' isn't below 0,v' is below v
 have D:P<=(f+c)*P:=by
  have:=Int.mul_le_mul_of_nonneg_right (show 1<=f+c by omega) (Int.le_of_lt hP);omega
 have E:P<=(f+d)*P:=by
  have:=Int.mul_le_mul_of_nonneg_right (show 1<=f+d by omega) (Int.le_of_lt hP);omega
 have U:0<c*X+d*Y:=by
  rw [L];rcases h.sg with ⟨n,o,j,i⟩ | ⟨n,o,j,i⟩
  ·have:=(eM hP p l r m j i).1;rw [Int.add_mul] at D;omega
  ·have:=(eM hP r m p l i j).1;rw [Int.add_mul] at E;omega
 have V:0<=(hi-q*f+(a-q*c))*P:=Int.mul_nonneg O (Int.le_of_lt hP);have W:0<=(hi-q*f+(b-q*d))*P:=Int.mul_nonneg O (Int.le_of_lt hP);have F:0<=(a-q*c)*X+(b-q*d)*Y:=by
  rw [u];rcases s with ⟨n,o,j,i⟩ | ⟨n,o,j,i⟩
  ·have:=(eM hP p l r m j i).1;rw [Int.add_mul] at V;omega
  ·have:=(eM hP r m p l i j).1;rw [Int.add_mul] at W;omega
 have f1:P<=(f+c-(hi-q*f+(a-q*c)))*P:=by
  have:=Int.mul_le_mul_of_nonneg_right (show 1<=f+c-(hi-q*f+(a-q*c)) by omega) (Int.le_of_lt hP);omega
 have f2:P<=(f+d-(hi-q*f+(b-q*d)))*P:=by
  have:=Int.mul_le_mul_of_nonneg_right (show 1<=f+d-(hi-q*f+(b-q*d)) by omega) (Int.le_of_lt hP);omega
 have hlt:(a-q*c)*X+(b-q*d)*Y<c*X+d*Y:=by
  rw [u,L];rw [Int.sub_mul,Int.add_mul,Int.add_mul] at f1 f2;rcases s with ⟨n,o,j,i⟩ | ⟨n,o,j,i⟩
  ·have k1:=(eM hP r m p l o n).1;have k2:=(eM hP p l r m j i).2;omega
  ·have k1:=(eM hP p l r m n o).1;have k2:=(eM hP r m p l i j).2;omega
 have G:b-q*d≠0:=by
  have he:=h.ds;rcases h.bs with ⟨ea,eb,ec,ed⟩ | ⟨hj,_⟩
  ·subst ea eb ec ed;have hf:=h.le;have:q≠0:=by
    intro e;rw [e] at K;omega
   omega
  ·rcases h.sg with ⟨n,o,j,i⟩ | ⟨n,o,j,i⟩
   ·have:=Int.mul_nonneg q0 i;omega
   ·have:=Int.mul_nonpos_of_nonneg_of_nonpos q0 i;omega
 refine ⟨⟨h.hn,M,?_,h.hc,h.hd,hc',hd',h.rc,h.rd,O,O,O,by have:=h.top;have:=h.le;omega,?_,F,Int.le_of_lt hlt,U,?_,?_,G,.inr ⟨h.ds,?_⟩⟩,y.1,y.2,q0,C⟩
 ·omega
 ·rw [B,CJ];exact h.g
 ·have:=h.vy;omega
 ·have:=h.vy;omega
 ·have:=h.vy;omega
def AO (x y z u:Int):Int :=
 if u > (if z > (if y > x then y else x) then z else (if y > x then y else x)) then u else (if z > (if y > x then y else x) then z else (if y > x then y else x))
theorem Ek {P:Program} (w:World) (e:Array TypeId) (t:TypeId) (k:IntKind) (x y z u:Int):(Builtin.max_ e t #[.int k x,.int k y,.int k z,.int k u]).run P w=.ok (.int k (AO x y z u)) w:=by
 simp [Builtin.max_,Builtin.max2,AO]
theorem max4_lt (x y z u B:Int):AO x y z u<B↔x<B/\y<B/\z<B/\u<B:=by
 unfold AO;repeat' split
 all_goals omega
theorem uY (q c:Int) (e:0<=q) (f:q<1073741824) (c1:-1073741824<c) (g:c<1073741824):-1152921504606846976<q*c/\q*c<1152921504606846976:=by
 have h:q*c<=q*1073741823:=Int.mul_le_mul_of_nonneg_left O e;have i:q*(-1073741823)<=q*c:=Int.mul_le_mul_of_nonneg_left O e;omega
def kM (w:World) (g:Nat) (a b c d:Int):Prop:=w.heap[g]? = some (.cells #[.int .i64 a,.int .i64 b,.int .i64 c,.int .i64 d] 195 (0,0))
theorem kM.cells {g:Nat} (h:kM w g a b c d):w.cell? ⟨g,0,none⟩=some (.int .i64 a)/\w.cell? ⟨g,1,none⟩=some (.int .i64 b)/\w.cell? ⟨g,2,none⟩=some (.int .i64 c)/\w.cell? ⟨g,3,none⟩=some (.int .i64 d)/\∀ i,w.frozen? ⟨g,i,none⟩=false:=by
 unfold kM at h;refine ⟨?_,?_,?_,?_,fun i=>?_⟩<;>simp [World.cell?,World.frozen?,h]
theorem kM.set {g:Nat} {e b' f i:Int} (h:kM w g a b c d):kM ((((w.setCell ⟨g,0,none⟩ (.int .i64 e)).setCell ⟨g,1,none⟩ (.int .i64 b')).setCell ⟨g,2,none⟩ (.int .i64 f)).setCell ⟨g,3,none⟩ (.int .i64 i)) g e b' f i:=by
 unfold kM at h ⊢;rw [heap_setCell_same _ g 3 _ _ _ (heap_setCell_same _ g 2 _ _ _ (heap_setCell_same _ g 1 _ _ _ (heap_setCell_same w g 0 _ _ _ h)))];simp
theorem kM.other {g:Nat} (h:kM w g a b c d) (e:g≠k) (x y z u:Value):kM ((((w.setCell ⟨k,0,none⟩ x).setCell ⟨k,1,none⟩ y).setCell ⟨k,2,none⟩ z).setCell ⟨k,3,none⟩ u) g a b c d:=by
 unfold kM at h ⊢;rw [heap_setCell_other _ _ _ _ e,heap_setCell_other _ _ _ _ e,heap_setCell_other _ _ _ _ e,heap_setCell_other _ _ _ _ e];exact h
theorem sN (h:w.grownBy wr none) (e:w.heap.size<=k) (x y z u:Value):w.grownBy ((((wr.setCell ⟨k,0,none⟩ x).setCell ⟨k,1,none⟩ y).setCell ⟨k,2,none⟩ z).setCell ⟨k,3,none⟩ u) none :=
 ah (ah (ah (ah h _ _ e) _ _ e) _ _ e) _ _ e
def oH (X Y a b c d:Int):Prop:=∃ P H N hi nx,iE X Y P H N a b c d hi nx
def StrR (w:World) (X Y P H N:Int) (hv nv:Value) (wr:World):Prop :=
 ∃ a b c d hi nx:Int,hv=.int .i64 hi/\nv=.int .i64 nx/\0<=nx/\iE X Y P H N a b c d hi nx/\kM wr w.heap.size 0 0 0 0/\kM wr (w.heap.size+1) a b c d/\w.grownBy wr none
def se (w:World) (X Y:Int) (e:Ending) (w':World):Prop:=∃ a b c d:Int,e=.returned (.agg #[.int .i64 a,.int .i64 b,.int .i64 c,.int .i64 d])/\oH X Y a b c d/\w.grownBy w' none
theorem yd {X Y:Nat} (i:oG X k) (f:Y<=X) (l:4611686018427387904<=Y):63<=k/\X / 2^(k-62)<4611686018427387904/\Y / 2^(k-62)<=X / 2^(k-62):=by
 rcases i with ⟨h,_⟩ | ⟨m,o,j⟩
 ·omega
 ·have g:63<=k:=by
   rcases Nat.lt_or_ge k 63 with h | h
   ·have:=Nat.pow_le_pow_right (n:=2) zD (show k<=62 by omega);omega
   ·exact h
  refine ⟨g,?_,Nat.div_le_div_right f⟩;rw [Nat.div_lt_iff_lt_mul (Nat.two_pow_pos _)];have e:4611686018427387904*2^(k-62)=2^k:=by
   rw [show (4611686018427387904:Nat)=2^62 from by decide,<- Nat.pow_add,show 62+(k-62)=k from O]
  rw [e];exact j
theorem my (X low:Nat):(X:Int)=((X / 2^low:Nat):Int)*((2^low:Nat):Int)+((X % 2^low:Nat):Int)/\0<=((X % 2^low:Nat):Int)/\((X % 2^low:Nat):Int)<((2^low:Nat):Int):=by
 have e:=Nat.div_add_mod X (2^low);have f:=Nat.mod_lt X (Nat.two_pow_pos low);refine ⟨?_,O,O⟩;rw [<- Int.natCast_mul,<- Int.natCast_add];congr 1
 rw [Nat.mul_comm];exact e.symm
theorem vO (va vb:Value) (xs ys:List Nat) (w:World) (ha:Ws w va xs) (hb:Ws w vb ys) (tx:Tr xs) (r:ai ys<=ai xs) (hY:4611686018427387904<=ai ys) (hl:xs.length<=10000000000000) :
  Calls Tryz.prog 150 #[va,vb] w fun e w'=>se w (ai xs:Nat) (ai ys:Nat) e w':=by
 obtain ⟨ao,ca,ea,hm,I,_⟩:=ha.open;obtain ⟨bo,cb,eb,ho,J,_⟩:=hb.open;have WA:=ab ha;have WB:=ab hb;have TX:=ab tx;have s:=ab r;have HY:=ab hY;subst ea eb;clear ha hb tx r hY hm I ho J;go_enter Tryz.func150,Tryz.ntmps150
 go_wp2_with fail;have V:w.grownBy (w.alloc (Obj.cells #[Value.int .i64 0,Value.int .i64 0,Value.int .i64 0,Value.int .i64 0] 195)) none:=ag (ae _ _) _;refine (lN _ (ai xs) xs.length _ ⟨xs,WA.keep0 V,TX,rfl,zL⟩ hl).mono ?_;rintro e w1 ⟨k,rfl,hk,hp,rfl⟩;obtain ⟨hr,W,X⟩:=yd hk s HY;obtain ⟨low,K⟩:∃ low:Nat,(k:Int)-62=(low:Int):=⟨k-62,O⟩;have g:k-62=low:=O
 rw [g] at W X;have i:low<=400000000000000:=O
 obtain ⟨m,j⟩:=eX (ai xs / 2^low);obtain ⟨p,o⟩:=eX (ai ys / 2^low);have hy:m<4611686018427387904:=by rw [j];exact W
 have he:p<=m:=by rw [j,o];exact X
 obtain ⟨Y,e2,e3⟩:=my (ai xs) low;obtain ⟨f1,f2,f3⟩:=my (ai ys) low;have hP:(0:Int)<((2^low:Nat):Int):=by have:=Nat.two_pow_pos low;omega
 have u:((ai ys:Nat):Int)<=((ai xs:Nat):Int):=Int.ofNat_le.2 s;have E:(0:Int)<((ai ys:Nat):Int):=by have:=HY.out;omega
 rw [<- j] at Y;rw [<- o] at f1;obtain ⟨P,L⟩:∃ P:Int,P=((2^low:Nat):Int):=⟨_,rfl⟩;rw [<- L] at Y e3 f1 f3 hP;have x:Hid (∀ {a b c d hi nx q:Int},iE (ai xs:Nat) (ai ys:Nat) P m p a b c d hi nx->nx+c≠0->nx+d≠0->q=(hi+a) / (nx+c)->q=(hi+b) / (nx+d)->(-1073741824<a-q*c/\a-q*c<1073741824)->(-1073741824<b-q*d/\b-q*d<1073741824) ->
   iE (ai xs:Nat) (ai ys:Nat) P m p c d (a-q*c) (b-q*d) nx (hi-q*nx)/\0<=hi-q*nx/\hi-q*nx<nx/\0<=q/\q*nx<=hi+1073741824):=by
  intro a b c d hi nx q h k1 k2 k3 k4 k5 k6;exact h.step hP e2 e3 f2 f3 Y f1 u k1 k2 k3 k4 k5 k6
 have F:=ab (iE.start (P:=P) (H:=(m:Int)) (N:=(p:Int)) u E (Int.natCast_nonneg _) (Int.ofNat_le.2 he));have HH:=ab j;have HN:=ab o;have KH:=ab W;have KN:=ab X;clear W X hk hp hr g Y e2 e3 f1 f2 f3 hP u E L j o;go_wp2_with fail;refine (ir _ xs low _ (WA.keep0 V) KH i).mono ?_;rintro e w2 ⟨rfl,q2,rfl⟩;rw [<- HH];go_wp2_with fail;refine (ir _ ys low _ (WB.keep0 (aj V _)) (Nat.lt_of_le_of_lt KN KH) i).mono ?_;rintro e w3 ⟨rfl,q3,rfl⟩;rw [<- HN];clear KH KN s HY WA WB TX HH HN K V;go_wp2;go_loopw [6,7] (fun hv nv wr=>Hid (StrR w (ai xs:Nat) (ai ys:Nat) P m p hv nv wr)) (fun _ nv _=>(intOf nv).toNat)
 case atStart =>
  refine ⟨1,0,0,1,m,p,rfl,rfl,Int.natCast_nonneg _,F,?_,?_,?_⟩
  ·show ((w.heap.push _).push _)[w.heap.size]? = _
   rw [Array.getElem?_push_lt Z,Array.getElem_push_eq]
  ·show ((w.heap.push _).push _)[w.heap.size+1]? = _
   have e:w.heap.size+1=(w.heap.push (Obj.cells #[Value.int .i64 0,Value.int .i64 0,Value.int .i64 0,Value.int .i64 0] 195)).size:=Z
   rw [e,Array.getElem?_push_size]
  ·exact ag (aj (ag (ae _ _) _) _) _
 case round =>
  obtain ⟨a,b,c,d,hi,nx,rfl,rfl,hs,hS,hR,hF,hG⟩:=hrel.out;have ha:=hS.ha;have hb:=hS.hb;have hc:=hS.hc;have hd:=hS.hd;have r:=hS.le;have hw:=hS.top;have y:=hS.ra;have z:=hS.rb;have hz:=hS.rc;have hA:=hS.rd;obtain ⟨s0,s1,s2,s3,Q⟩:=hF.cells;obtain ⟨R,r1,r2,S,T⟩:=hR.cells;have hB:=Q 0;have hE:=Q 1;have hH:=Q 2;have hI:=Q 3;have hJ:=T 0;have hK:=T 1;have hL:=T 2;have hN:=T 3;have SS:=ab hS;have FF:=ab hF;have GG:=ab hG;have RR:=ab hR;have f:Hid (se w (ai xs:Nat) (ai ys:Nat) (.returned (.agg #[.int .i64 a,.int .i64 b,.int .i64 c,.int .i64 d])) ((((wr.setCell ⟨w.heap.size,0,none⟩ (.int .i64 a)).setCell ⟨w.heap.size,1,none⟩ (.int .i64 b)).setCell ⟨w.heap.size,2,none⟩ (.int .i64 c)).setCell ⟨w.heap.size,3,none⟩ (.int .i64 d))) :=
   ⟨a,b,c,d,rfl,⟨P,m,p,hi,nx,hS⟩,sN hG zL _ _ _ _⟩
  have A:Hid (∀ n,se w (ai xs:Nat) (ai ys:Nat) (.returned (.agg #[.int .i64 a,.int .i64 b,.int .i64 c,.int .i64 d])) (((((wr.drewN n).setCell ⟨w.heap.size,0,none⟩ (.int .i64 a)).setCell ⟨w.heap.size,1,none⟩ (.int .i64 b)).setCell ⟨w.heap.size,2,none⟩ (.int .i64 c)).setCell ⟨w.heap.size,3,none⟩ (.int .i64 d))) :=
   fun n=>⟨a,b,c,d,rfl,⟨P,m,p,hi,nx,hS⟩,sN (aj hG n) zL _ _ _ _⟩
  clear hS hF hG hR Q T hrel F;by_cases k1:nx+c=0
  ·have b1:(nx+c != 0)=false:=by rw [bne_eq_false_iff_eq];exact k1
   clear k1;go_wp2;refine bodyPost_ret (v:=.agg #[.int .i64 a,.int .i64 b,.int .i64 c,.int .i64 d]) (by simp [results,Tryz.results150,go_sem,R,r1,r2,S]) rfl f
  ·have b1:(nx+c != 0)=true:=by rw [bne_iff_ne];exact k1
   by_cases k2:nx+d=0
   ·have b2:(nx+d != 0)=false:=by rw [bne_eq_false_iff_eq];exact k2
    clear k1 k2;go_wp2;refine bodyPost_ret (v:=.agg #[.int .i64 a,.int .i64 b,.int .i64 c,.int .i64 d]) (by simp [results,Tryz.results150,go_sem,R,r1,r2,S]) rfl f
   ·have b2:(nx+d != 0)=true:=by rw [bne_iff_ne];exact k2
    have p1:0<nx+c:=O
    have p2:0<nx+d:=O
    obtain ⟨q,U⟩:∃ q,(hi+a) / (nx+c)=q:=⟨_,rfl⟩;obtain ⟨B,l⟩:∃ q,(hi+b) / (nx+d)=q:=⟨_,rfl⟩;have t1:(hi+a).tdiv (nx+c)=q:=by rw [Int.tdiv_eq_ediv_of_nonneg y];exact U
    have t2:(hi+b).tdiv (nx+d)=B:=by rw [Int.tdiv_eq_ediv_of_nonneg z];exact l
    have q0:0<=q:=by rw [<- U];exact Int.ediv_nonneg y O
    have hQ:0<=B:=by rw [<- l];exact Int.ediv_nonneg z O
    have q1:q<=hi+a:=by rw [<- U];exact Int.ediv_le_self _ y
    have hT:B<=hi+b:=by rw [<- l];exact Int.ediv_le_self _ z
    have z1:(nx+c==0)=false:=zB k1;have z2:(nx+d==0)=false:=zB k2;have K1:=ab k1;have K2:=ab k2;have HQ:=ab U;have hf:=ab l;clear U l k1 k2;by_cases k3:1073741824<=q
    ·go_wp2;refine bodyPost_ret (v:=.agg #[.int .i64 a,.int .i64 b,.int .i64 c,.int .i64 d]) (by simp [results,Tryz.results150,go_sem,R,r1,r2,S]) rfl f
    ·have G:q<1073741824:=O
     by_cases k4:q=B
     ·have b4:(q != B)=false:=by rw [bne_eq_false_iff_eq];exact k4
      obtain ⟨m1,m2⟩:=uY q c q0 G hc.1 hc.2;obtain ⟨m3,m4⟩:=uY q d q0 G hd.1 hd.2;obtain ⟨C,hC⟩:∃ C,a-q*c=C:=⟨_,rfl⟩;obtain ⟨D,hD⟩:∃ D,b-q*d=D:=⟨_,rfl⟩;obtain ⟨M,hM⟩:∃ M,AO C (-C) D (-D)=M:=⟨_,rfl⟩;have hx:∀ (ts:Array TypeId) (t:TypeId) (w:World),(Builtin.max_ ts t #[.int .i64 C,.int .i64 (-C),.int .i64 D,.int .i64 (-D)]).run Tryz.prog w=.ok (.int .i64 M) w:=by
       intro ts t w;rw [<- hM];exact Ek w ts t .i64 C (-C) D (-D)
      have hW:-1152921505680588800<C/\C<1152921505680588800:=O
      have hX:-1152921505680588800<D/\D<1152921505680588800:=O
      have hj:=ab k4;have HM:=ab hM;clear k4 hM;by_cases k5:1073741824<=M
      ·go_wp2;go_quiet (fail)
       go_wp2;refine bodyPost_ret (v:=.agg #[.int .i64 a,.int .i64 b,.int .i64 c,.int .i64 d]) (by simp [results,Tryz.results150,go_sem,R,r1,r2,S]) rfl (A _)
      ·have hlt:AO C (-C) D (-D)<1073741824:=by rw [HM];omega
       rw [max4_lt] at hlt;obtain ⟨n1,n2,n3,n4⟩:=hlt;obtain ⟨st,hu,kb,st3,kc⟩:=x.out SS K1 K2 HQ.symm (by rw [hj];exact hf.symm) (by rw [hC];omega) (by rw [hD];omega);rw [hC,hD] at st;have ka:0<=q*nx:=Int.mul_nonneg q0 hs;have ST:=ab st;clear st;go_wp2;go_quiet (fail)
       go_wp2;go_roundw
       case rel=>exact ⟨c,d,C,D,nx,hi-q*nx,rfl,rfl,hu,ST,kM.other (w:=wr.drewN _) RR O _ _ _ _,kM.set (w:=wr.drewN _) FF,sN (aj GG _) O _ _ _ _⟩
       case measure=>simp [intOf];omega
     ·have b4:(q != B)=true:=by rw [bne_iff_ne];exact k4
      clear k4;go_wp2;refine bodyPost_ret (v:=.agg #[.int .i64 a,.int .i64 b,.int .i64 c,.int .i64 d]) (by simp [results,Tryz.results150,go_sem,R,r1,r2,S]) rfl f
def GcdR (w:World) (G L:Nat) (k:Nat) (av bv:Value) (wr:World):Prop :=
 ∃ xs ys:List Nat,Ws wr av xs/\Ws wr bv ys/\Tr xs/\Tr ys/\0<ai xs/\xs.length<=L/\ys.length<=L/\Nat.gcd (ai xs) (ai ys)=G/\w.grownBy wr none/\ai ys=k/\ai ys<=ai xs
theorem Bw {u v X Y:Int} (h:Int.gcd u v=Int.gcd X Y) (f:0<=u) (g:0<=v) (i:0<=X) (j:0<=Y):Nat.gcd u.toNat v.toNat=Nat.gcd X.toNat Y.toNat:=by
 have e:∀ z:Int,0<=z->z.natAbs=z.toNat:=fun z l=>O
 unfold Int.gcd at h;rw [e u f,e v g,e X i,e Y j] at h;exact h
theorem oH.gives {X Y:Nat} (h:oH X Y a b c d) :
  (-1073741824<a/\a<1073741824)/\(-1073741824<b/\b<1073741824)/\(-1073741824<c/\c<1073741824)/\(-1073741824<d/\d<1073741824) /\
  0<=a*X+b*Y/\a*X+b*Y<=X/\0<=c*X+d*Y/\c*X+d*Y<=X/\0<(a*X+b*Y).toNat/\(c*X+d*Y).toNat<=(a*X+b*Y).toNat /\
  Nat.gcd (a*X+b*Y).toNat (c*X+d*Y).toNat=Nat.gcd X Y/\(b≠0->(c*X+d*Y).toNat<Y):=by
 obtain ⟨P,H,N,hi,f,h⟩:=h;have u0:=h.u0;have v0:=h.v0;have vu:=h.vu;have ux:=h.ux;refine ⟨h.ha,h.hb,h.hc,h.hd,O,ux,v0,O,O,O,?_,?_⟩
 ·have:=Bw h.g O v0 (Int.natCast_nonneg _) (Int.natCast_nonneg _);rw [this,Int.toNat_natCast,Int.toNat_natCast]
 ·intro hb;rcases h.bs with ⟨_,e,_⟩ | ⟨_,e⟩
  ·exact absurd e hb
  ·omega
theorem bits_le {n:Nat} (h:oG n k) (e:k<=62):n<4611686018427387904:=by
 rcases h with ⟨h,_⟩ | ⟨_,_,h⟩
 ·omega
 ·have:=Nat.pow_le_pow_right (n:=2) zD e;omega
theorem bits_gt {n:Nat} (h:oG n k) (e:62<k):4611686018427387904<=n:=by
 rcases h with ⟨_,h⟩ | ⟨_,h,_⟩
 ·omega
 ·have:=Nat.pow_le_pow_right (n:=2) zD (show 62<=k-1 by omega);omega
theorem By (n:Nat) (h:n<18446744073709551616):Sm [n % 4294967296,n / 4294967296]/\ai [n % 4294967296,n / 4294967296]=n:=by
 constructor
 ·exact Sm.cons O (Sm.cons O Sm.nil)
 ·simp only [ai];omega
theorem aQ.shape {v:Value} {n L:Nat} (h:aQ w v n L):∃ o l c,v=.slice o l c/\(l=0↔n=0)/\l<=c/\c<=maxLen:=by
 obtain ⟨xs,g,i,f,q⟩:=h;obtain ⟨o,c,rfl,j,m,_⟩:=g.open;refine ⟨o,_,c,rfl,?_,j,m⟩;constructor
 ·intro e;have:xs=[]:=List.eq_nil_of_length_eq_zero e;rw [this] at f;simp [ai] at f;omega
 ·intro e;rcases zP xs.length with h | h
  ·exact h
  ·have:=jh i (by intro e;rw [e] at h;simp at h);have p:0<4294967296^(xs.length-1):=Nat.pow_pos zD;omega
theorem cL (k:Nat):w.grownBy (w.drewN k) none:=aj (ae _ _) k
def GcdE (w:World) (G L:Nat) (e:Ending) (w':World):Prop:=∃ g,e=.returned g/\aQ w' g G L/\w.grownBy w' none
def LastR (G:Nat) (hv lv:Value):Prop:=∃ h l:Nat,hv=.int .i64 (h:Nat)/\lv=.int .i64 (l:Nat)/\h<4611686018427387904/\l<4611686018427387904/\Nat.gcd h l=G
theorem iT (va vb:Value) (g i:List Nat) (w:World) (ha:Ws w va g) (hb:Ws w vb i) (v:Tr g) (x:Tr i) (y:0<ai g∨0<ai i) (L:Nat) (K:g.length<=L) (M:i.length<=L) (hl:L<=8000000000000) :
  Calls Tryz.prog 103 #[va,vb] w fun e Y=>GcdE w (Nat.gcd (ai g) (ai i)) L e Y:=by
 obtain ⟨ao,ca,ea,hy,t,Ha⟩:=ha.open;obtain ⟨bo,cb,eb,hz,u,Hb⟩:=hb.open;obtain ⟨G,hG⟩:=eX (Nat.gcd (ai g) (ai i));rw [<- hG];have hM:(∃ k0,(∀ wq,w.grownBy wq none->GcdR w G L k0 (.slice bo i.length cb) (.slice ao g.length ca) wq)/\gG (ai g) (ai i)<0)∨(∃ k0,(∀ wq,w.grownBy wq none->GcdR w G L k0 (.slice ao g.length ca) (.slice bo i.length cb) wq)/\0<=gG (ai g) (ai i)):=by
  rcases Nat.lt_or_ge (ai g) (ai i) with hlt | hA
  ·exact .inl ⟨ai g,fun wq U=>⟨i,g,by rw [<- eb];exact hb.keep0 U,by rw [<- ea];exact ha.keep0 U,x,v,O,M,K,by rw [Nat.gcd_comm];exact hG.symm,U,rfl,Nat.le_of_lt hlt⟩,sY hlt⟩
  ·exact .inr ⟨ai i,fun wq U=>⟨g,i,by rw [<- ea];exact ha.keep0 U,by rw [<- eb];exact hb.keep0 U,v,x,O,K,M,hG.symm,U,rfl,hA⟩,mV hA⟩
 have WA:=ab ha;have WB:=ab hb;have TX:=ab v;have TY:=ab x;subst ea eb;clear Ha Hb ha hb v x y K M hG hy t hz u;rcases hM with ⟨k0,h0,F⟩ | ⟨k0,h0,F⟩
 all_goals
  have H0:=ab h0;clear h0;go_enter Tryz.func103,Tryz.ntmps103
  go_wp2_with fail;refine (fU _ _ g i _ WA WB TX TY).mono ?_;rintro e w1 ⟨rfl,q1,rfl⟩;generalize gG (ai g) (ai i)=o1 at F ⊢;clear WA WB TX TY;go_wp2;go_loopg [0,1] k0 (fun k av bv wr=>Hid (GcdR w G L k av bv wr))
  case atStart=>exact H0 _ (aP _)
  case round =>
   obtain ⟨xs,ys,h1,h2,h3,h4,h5,h6,h7,h8,h9,hB,R⟩:=hrel.out;obtain ⟨kf,kk,rfl,hy,t,_⟩:=h1.open;obtain ⟨kl,ko,rfl,hz,u,_⟩:=h2.open;unfold maxLen at t u;have he:ys.length<=xs.length:=ly h2.sm h4 h1.sm R;have H1:=ab h1;have E:=ab h2;have H3:=ab h3;have H4:=ab h4;have H5:=ab h5;have H8:=ab h8;have H9:=ab h9;have hf:=ab hB;have hN:=ab R;clear h1 h2 h3 h4 h5 h8 h9 hB R hrel H0;go_wp2_with fail;refine (lN _ (ai ys) L _ ⟨ys,E,H4,rfl,h7⟩ O).mono ?_;rintro e w2 ⟨kb,rfl,B,H,rfl⟩;by_cases hj:62<kb
   ·have hY:=ab (bits_gt B hj);clear B H;go_wp2_with fail;refine (vO _ _ xs ys _ H1 E H3 hN hY O).mono ?_;rintro e n ⟨a,b,c,d,rfl,hC,g3⟩;obtain ⟨i1,i2,i3,i4,i5,i6,i7,i8,i9,hE,hH,hI⟩:=hC.gives;have G3:=ab g3;have I5:=ab i5;have I6:=ab i6;have I7:=ab i7;have I8:=ab i8;have I9:=ab i9;have hQ:=ab hE;have hR:=ab hH;have hS:=ab hI;clear hC g3 i5 i6 i7 i8 i9 hE hH hI;by_cases p:b=0
    ·have bb:(b==0)=true:=beq_iff_eq.2 p;clear p;have j:Hid (0<ai ys):=by have:=hY.out;show 0<ai ys;omega
     have ga:n.grownBy (n.alloc (Obj.cells #[Value.int .i64 a,Value.int .i64 b,Value.int .i64 c,Value.int .i64 d] 195)) none:=ag (ae _ _) _;have GA:=ab (aa G3 ga);clear ga;go_wp2_with fail;refine (jn _ _ (ai xs) (ai ys) L L _ ⟨xs,H1.keep0 GA,H3,rfl,h6⟩ ⟨ys,E.keep0 GA,H4,rfl,h7⟩ j O).mono ?_;intro e A hD;obtain ⟨q,r,rfl,o,⟨rs,r1,r2,r3,r4⟩,I,k4,k5⟩:=hD;obtain ⟨kz,kF,rfl,kH,hJ,_⟩:=r1.open;obtain ⟨kN,qa,qb,rfl,_,_,_⟩:=o.shape;have R1:=ab r1;have R2:=ab r2;have R3:=ab r3;have K3:=ab I;clear o r1 r2 r3 I k4 k5;go_wp2;have z:=Nat.mod_lt (ai xs) j;go_roundg (ai rs)
     case measure=>rw [R3,<- hf];exact z
     case rel=>exact ⟨ys,rs,E.keep0 (aa GA K3),R1,H4,R2,j,h7,r4,by rw [R3,Nat.gcd_comm,<- Nat.gcd_rec,Nat.gcd_comm];exact H8,aa H9 (aa GA K3),rfl,by rw [R3];exact Nat.le_of_lt z⟩
    ·have bb:(b==0)=false:=zB p;have hT:=ab p;clear p;obtain ⟨W,S⟩:=eX (n.alloc (Obj.cells #[Value.int .i64 a,Value.int .i64 b,Value.int .i64 c,Value.int .i64 d] 195));have hF:kM W n.heap.size a b c d:=by
      rw [S];show (n.heap.push _)[n.heap.size]? = _
      rw [Array.getElem?_push_size]
     have N:=ab (aa G3 (show n.grownBy W none by rw [S];exact ag (ae _ _) _));have f:Hid (∀ wx,W.grownBy wx none->wx.cell? ⟨n.heap.size,0,none⟩=some (.int .i64 a)/\wx.cell? ⟨n.heap.size,1,none⟩=some (.int .i64 b)/\wx.cell? ⟨n.heap.size,2,none⟩=some (.int .i64 c)/\wx.cell? ⟨n.heap.size,3,none⟩=some (.int .i64 d)):=by
      intro wx hg;obtain ⟨s0,s1,s2,s3,_⟩:=hF.cells;exact ⟨hg.cell s0 Z,hg.cell s1 Z,hg.cell s2 Z,hg.cell s3 Z⟩
     have hk:Hid (∀ wx,W.grownBy wx none->Ws wx (.slice kf xs.length kk) xs):=fun wx hg=>H1.keep0 (aa N hg)
     have ho:Hid (∀ wx,W.grownBy wx none->Ws wx (.slice kl ys.length ko) ys):=fun wx hg=>E.keep0 (aa N hg)
     obtain ⟨s0,s1,s2,s3⟩:=f.out W (ae _ _);have hp:xs.length<=10000000000000:=O
     clear hF;go_wp2;rw [<- S];clear S;go_region_held3 (fun Y=>Y.cell? ⟨n.heap.size,0,none⟩=some (.int .i64 a)/\Y.cell? ⟨n.heap.size,1,none⟩=some (.int .i64 b)/\Y.cell? ⟨n.heap.size,2,none⟩=some (.int .i64 c)/\Y.cell? ⟨n.heap.size,3,none⟩=some (.int .i64 d)) (go_keep)
      (first | (go_at_call_of 151 (Value.int .i64 a);refine (oU _ _ xs ys a b _ _ (hk _ (by first | exact cL _ | exact aa G1 (cL _) | exact aa G2 (cL _) | exact ae _ _ | exact G1 | exact G2)) (ho _ (by first | exact cL _ | exact aa G1 (cL _) | exact aa G2 (cL _) | exact ae _ _ | exact G1 | exact G2)) he i1.1 i1.2 i2.1 i2.2 rfl I5 I6 hp).mono ?_;rintro e A ⟨v1,rfl,o,J,I⟩;have G1:W.grownBy A none:=aa (by first | exact cL _ | exact aa G1 (cL _) | exact aa G2 (cL _) | exact ae _ _ | exact G1 | exact G2) J;have s10:=(f A G1).1;have s11:=(f A G1).2.1;have s12:=(f A G1).2.2.1;have s13:=(f A G1).2.2.2) | (go_at_call_of 151 (Value.int .i64 c);refine (oU _ _ xs ys c d _ _ (hk _ (by first | exact cL _ | exact aa G1 (cL _) | exact aa G2 (cL _) | exact ae _ _ | exact G1 | exact G2)) (ho _ (by first | exact cL _ | exact aa G1 (cL _) | exact aa G2 (cL _) | exact ae _ _ | exact G1 | exact G2)) he i3.1 i3.2 i4.1 i4.2 rfl I7 I8 hp).mono ?_;rintro e V ⟨v2,rfl,m1,X,m3⟩;have G2:W.grownBy V none:=aa (by first | exact cL _ | exact aa G1 (cL _) | exact aa G2 (cL _) | exact ae _ _ | exact G1 | exact G2) X;have s20:=(f V G2).1;have s21:=(f V G2).2.1;have s22:=(f V G2).2.2.1;have s23:=(f V G2).2.2.2))
     all_goals first
      | (have K1:=ab (o.keep0 (by first | exact X | exact aa gr_drew1 X | exact aa (cL _) X));have M1:=ab m1;have GF:=ab (aa N G2);clear o J I m1 X m3 G1 G2 s10 s11 s12 s13 s20 s21 s22 s23)
      | (have K1:=ab o;have M1:=ab (m1.keep0 (by first | exact J | exact aa gr_drew1 J | exact aa (cL _) J));have GF:=ab (aa N G1);clear o J I m1 X m3 G1 G2 s10 s11 s12 s13 s20 s21 s22 s23)
     all_goals
      obtain ⟨us,T,x2,x3,x4⟩:=K1.out;obtain ⟨vs,y1,y2,y3,y4⟩:=M1.out;obtain ⟨uo,uc,rfl,qq,hu2,_⟩:=T.open;obtain ⟨vo,vc,rfl,qs,yc,_⟩:=y1.open;have X1:=ab T;have X2:=ab x2;have X3:=ab x3;have Y1:=ab y1;have Y2:=ab y2;have Y3:=ab y3;clear T x2 x3 y1 y2 y3 K1 M1 s0 s1 s2 s3;go_wp2;go_roundg (ai vs)
      case measure=>rw [Y3,<- hf];exact hS hT
      case rel=>exact ⟨us,vs,X1,Y1,X2,Y2,by rw [X3];exact I9,O,O,by rw [X3,Y3,hR];exact H8,aa H9 GF,rfl,by rw [X3,Y3];exact hQ⟩
   ·have P:=ab (bits_le B O);clear B H;by_cases s:ys.length=0
    ·have E0:Hid (ys=[]):=List.eq_nil_of_length_eq_zero s;have bb:(((ys.length:Nat):Int)==0)=true:=beq_iff_eq.2 O;clear s;go_wp2;go_ret;refine ⟨_,rfl,⟨xs,H1,H3,?_,h6⟩,H9⟩;have:=H8.out;rw [E0] at this;simp only [ai,Nat.gcd_zero_right] at this;exact this
    ·have bb:(((ys.length:Nat):Int)==0)=false:=zB O;have j:Hid (0<ai ys):=by
      have:=jh H4 (by intro e;rw [e] at s;simp at s);have p3:0<4294967296^(ys.length-1):=Nat.pow_pos zD;show 0<ai ys
      omega
     clear s;go_wp2_with fail;refine (jn _ _ (ai xs) (ai ys) L L _ ⟨xs,H1,H3,rfl,h6⟩ ⟨ys,E,H4,rfl,h7⟩ j O).mono ?_;intro e A hD;obtain ⟨q,r,rfl,o,⟨rs,r1,r2,r3,r4⟩,I,k4,k5⟩:=hD;obtain ⟨kz,kF,rfl,kH,hJ,_⟩:=r1.open;obtain ⟨kN,qa,qb,rfl,_,_,_⟩:=o.shape;have z:=Nat.mod_lt (ai xs) j;have hr:Hid (ai rs<4611686018427387904):=by have:=P.out;show ai rs<_;omega
     have R1:=ab r1;have R3:=ab r3;have K3:=ab I;obtain ⟨yn,C⟩:=eX (ai ys);obtain ⟨rn,D⟩:=eX (ai rs);have hs:yn<4611686018427387904:=by rw [C];exact P
     have hu:rn<4611686018427387904:=by rw [D];exact hr
     have HG:Hid (Nat.gcd yn rn=G):=by rw [C,D,R3,Nat.gcd_comm,<- Nat.gcd_rec,Nat.gcd_comm];exact H8
     have hX:=ab C;have ka:=ab D;clear o r1 r2 r3 I k4 k5 z C D;go_wp2_with fail;refine (ir _ ys 0 _ (E.keep0 K3) (by rw [Nat.pow_zero,Nat.div_one];exact P) O).mono ?_;rintro e V ⟨rfl,q5,rfl⟩;rw [Nat.pow_zero,Nat.div_one,<- hX];go_wp2_with fail;refine (ir _ rs 0 _ (R1.keep0 (aP _)) (by rw [Nat.pow_zero,Nat.div_one];exact hr) O).mono ?_;rintro e w6 ⟨rfl,q6,rfl⟩;rw [Nat.pow_zero,Nat.div_one,<- ka];have N:Hid (w.grownBy ((A.drewN q5).drewN q6) none):=aa H9 (aa K3 (aa (aP _) (aP _)));obtain ⟨W,S⟩:=eX ((A.drewN q5).drewN q6);rw [<- S] at N ⊢;clear S;go_wp2;go_loopw [10,11] (fun hv lv wr=>Hid (LastR G hv lv/\w.grownBy wr none)) (fun _ lv _=>(intOf lv).toNat)
     case atStart=>exact ⟨⟨yn,rn,rfl,rfl,hs,hu,HG⟩,N⟩
     case round =>
      obtain ⟨⟨h,l,rfl,rfl,hh,qc,hg⟩,hK⟩:=hrel.out;have Q:=ab hg;have hx:=ab hK;clear hg hK hrel;by_cases kc:0<l
      ·have zz:(((l:Nat):Int)==0)=false:=zB O;obtain ⟨m,z⟩:=eX (h % l);have qf:m<l:=by rw [z];exact Nat.mod_lt _ kc
       have e1:((h:Nat):Int).tmod (l:Int)=(m:Int):=by
        rw [Int.tmod_eq_emod_of_nonneg O,z];exact (Int.natCast_emod h l).symm
       have HM:=ab z;clear z;go_wp2;go_quiet (fail)
       go_wp2;go_roundw
       case rel=>exact ⟨⟨l,m,rfl,rfl,qc,O,by rw [HM,Nat.gcd_comm,<- Nat.gcd_rec,Nat.gcd_comm];exact Q⟩,aa hx (cL _)⟩
       case measure=>simp [intOf];omega
      ·obtain rfl:l=0:=O
       have hG:Hid (h=G):=by have:=Q.out;rw [Nat.gcd_zero_right] at this;exact this
       obtain ⟨x0,y⟩:=eX (h % 4294967296);obtain ⟨T,hL⟩:=eX (h / 4294967296);have e0:((h:Nat):Int) % 4294967296=(x0:Int):=O
       have e1:((h:Nat):Int) / 4294967296=(T:Int):=O
       obtain ⟨t1,t2⟩:=By h O;rw [<- y,<- hL] at t1 t2;have T1:=ab t1;have T2:=ab t2;clear t1 t2 y hL Q;go_wp2_with fail;have ha:bW (wr.alloc (Obj.cells #[Value.int IntKind.u32 (x0:Int),Value.int IntKind.u32 (T:Int)] 140)) wr.heap.size [x0,T]:=by
        unfold bW;show (wr.heap.push _)[wr.heap.size]? = _
        rw [Array.getElem?_push_size];rfl
       have hw:=ha.ws T1 (by unfold maxLen;simp);clear ha;refine (fE _ _ _ hw).mono ?_;rintro e w7 ⟨v',rfl,rfl,o,J⟩;have K1:=ab o;clear hw o J;go_wp2;go_ret;obtain ⟨zs,z1,z2,z3,z4⟩:=K1.out;rw [T2,hG] at z3;have ql:G<=ai ys:=by rw [<- H8];exact Nat.gcd_le_right _ j
       have qo:=ly z1.sm z2 E.sm (show ai zs<=ai ys by omega);exact ⟨v',rfl,⟨zs,z1,z2,z3,O⟩,ag hx _⟩
end Go.Proofs.YtkbmbmdemajoaaaGreatDoor
