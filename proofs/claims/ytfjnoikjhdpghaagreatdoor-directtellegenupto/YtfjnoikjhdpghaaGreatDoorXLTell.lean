/- Contracts that the proof leans on. -/
import Derived.Test.YtfjnoikjhdpghaaGreatDoorXCT
import Derived.Test.YtfjnoikjhdpghaaGreatDoorXCNz
import Derived.Test.YtfjnoikjhdpghaaGreatDoorXCLo
namespace Go.Proofs.YtfjnoikjhdpghaaGreatDoor
open Go.RowKit
set_option linter.unusedVariables false
set_option linter.unusedSimpArgs false
set_option maxHeartbeats 8000000
set_option maxRecDepth 10000
attribute [local simp] kO
theorem tZ (ps:List aI) (h:cD ps<=1100000):∀ n,bV n ps->fC (dA n ps) (n+ps.length)<2300000:=by
 intro n hR;have:=mb n ps;have:=hR.hi;have:=hR.len;omega
theorem uS {w:World} {ao:Option Addr} {n cc:Nat} {P:Nat->Rat} (h:dM sv w (.slice ao n cc) (bI P n)):∀ j,j<n->∃ g off,ao=some ⟨g,off,none⟩/\w.cell? ⟨g,off+j,none⟩=some (.string ⟨(bS (P j)).toArray⟩):=by
 intro j hj;obtain ⟨ao_,cap_,ep,h1,h2,h3⟩:=h;simp only [Value.slice.injEq] at ep;obtain ⟨rfl,_,rfl⟩:=ep;obtain ⟨g,off,e,_,c⟩:=h3 j (by rw [aP];exact hj);exact ⟨g,off,e,by rw [c];simp [bI,sv]⟩
def TlA (W:World) (n:Nat) (v:Value) (wr:World):Prop:=∃ i:Nat,i<=n/\v=.int .i64 i/\W.grownBy wr none
def mP (ps:List aI) (ks:List Int) (vs:List ByteArray) (i:Nat):aI :=
 match ps[i]? with
 | none=>⟨0,0,0,0,0,⟨#[]⟩⟩
 | some p=>if h:0<ks.length/\0<vs.length then ⟨ks[i % ks.length]'(Nat.mod_lt _ h.1),p.a,p.b,0,0,vs[i % vs.length]'(Nat.mod_lt _ h.2)⟩ else ⟨1,p.a,p.b,0,0,⟨#[49]⟩⟩
def By (ps:List aI) (ks:List Int) (vs:List ByteArray):List aI:=(List.range ps.length).map (mP ps ks vs)
theorem pg (ps:List aI) (ks:List Int) (vs:List ByteArray):(By ps ks vs).length=ps.length:=by simp [By]
theorem xG (ps:List aI) (ks:List Int) (vs:List ByteArray) (i:Nat) (h:i<ps.length) (h':i<(By ps ks vs).length):(By ps ks vs)[i]=mP ps ks vs i:=by simp [By]
theorem xE (ps:List aI) (ks:List Int) (vs:List ByteArray) (i:Nat) (h:i<ps.length):(mP ps ks vs i).a=ps[i].a/\(mP ps ks vs i).b=ps[i].b/\(mP ps ks vs i).c=0/\(mP ps ks vs i).d=0:=by
 unfold mP;rw [List.getElem?_eq_getElem h];by_cases hk:0<ks.length/\0<vs.length
 ·simp [hk]
 ·simp [hk]
theorem xF (ps:List aI) (ks:List Int) (vs:List ByteArray) (hv:∀ v∈vs,v.size<=1100000) (i:Nat):(mP ps ks vs i).v.size<=1100000:=by
 unfold mP;split
 ·show 0<=_;omega
 ·split
  ·exact hv _ (List.getElem_mem _)
  ·show 1<=_;omega
theorem zf (ps:List aI) (ks:List Int) (vs:List ByteArray) (hv:∀ v∈vs,v.size<=1100000):cD (By ps ks vs)<=ps.length*1100000:=by
 have key:∀ k,cD ((List.range k).map (mP ps ks vs))<=k*1100000:=by
  intro k;induction k with
  | zero=>simp [cD]
  | succ k ih =>
   have:=xF ps ks vs hv k;rw [List.range_succ,List.map_append];simp only [cD,List.map_append,List.sum_append,List.map_cons,List.map_nil,List.sum_cons,List.sum_nil] at ih ⊢;omega
 exact key _
theorem m_fits (ps:List aI) (ks:List Int) (vs:List ByteArray) (hv:∀ v∈vs,v.size<=1100000) (hl:ps.length<=16):∀ n,bV n (By ps ks vs)->fC (dA n (By ps ks vs)) (n+(By ps ks vs).length)<35300000:=by
 intro n hR;have h1:=mb n (By ps ks vs);have h2:=hR.hi;have h3:=zf ps ks vs hv;rw [pg] at h1 ⊢;have h4:ps.length*1100000<=16*1100000:=Nat.mul_le_mul_right _ hl;omega
def TlM (W:World) (base gm:Nat) (n:Int) (qs:List aI) (k:Nat) (iv:Value) (wr:World):Prop :=
 ∃ (i:Nat) (v:Value),i<=k/\iv=.int .i64 i/\kZ wr gm (.int .i64 n) v/\fg wr base v (qs.take i)/\W.grownBy wr none
theorem Ct (nodes:Int) (po:Option Addr) (pc:Nat) (ps:List aI) (ko:Option Addr) (kc:Nat) (ks:List Int) (vo_:Option Addr) (vc_:Nat) (vs:List ByteArray) (w:World) (hb:iD w) (ht:eJ w) (hp:aM w (.slice po ps.length pc) ps)
  (hk:dM iv w (.slice ko ks.length kc) ks) (hv:dM sv w (.slice vo_ vs.length vc_) vs) (hsz:cD ps<=1100000) (hsv:∀ v∈vs,v.size<=1100000) :
  Calls Tryz.prog 3 #[.agg #[.int .i64 nodes,.slice po ps.length pc],.slice ko ks.length kc,.slice vo_ vs.length vc_] w fun e w'=>e=.returned (.bool true)/\w.grownBy w' none:=by
 have HB:=ab hb;have HT:=ab ht;have HP:=ab hp;have HK:=ab hk;have HV:=ab hv;have HSV:=ab hsv;have HSZ:=ab hsz;clear hb ht hp hk hv hsv hsz;obtain ⟨W,hW⟩:∃ W,W=w.alloc (Obj.cells #[.int .i64 nodes,.slice po ps.length pc] 24):=⟨_,rfl⟩;obtain ⟨gn,hgn⟩:∃ gn,gn=w.heap.size:=⟨_,rfl⟩;have GW:Hid (w.grownBy W none):=by rw [hW];exact ag (ae _ _) _
 have NC:Hid (∀ wx,W.grownBy wx none->kO wx gn (.int .i64 nodes) (.slice po ps.length pc)):=by
  intro wx hg;rw [hW] at hg;rw [hgn];exact ⟨hg.cell (by go_simp) (by simp),hg.cell (by go_simp) (by simp)⟩
 go_enter Tryz.func3,Tryz.ntmps3
 go_wp2_with fail;rw [<- hW,<- hgn];have HGN:Hid (gn<W.heap.size):=by show _<_;rw [hW,hgn];simp
 clear hW hgn;refine (vM W (HB.out.keep GW.out) (HT.out.keep0 GW.out)).mono ?_;rintro e w1 ⟨rfl,g1⟩;have n0:=NC.out w1 g1;have G1:=ab g1;clear g1;go_wp2_with fail;refine (mO nodes po pc ps 2300000 w1 (HB.out.keep (aa GW.out G1.out)) (HT.out.keep0 (aa GW.out G1.out)) (HP.out.keep (aa GW.out G1.out)) (tZ ps HSZ.out) (by decide) (by decide)).mono ?_;rintro e w2 ⟨c1,c2,n1,n2,V,I,vv,iv_,rfl,o1,o2,sp,g2,q1,q2⟩;obtain ⟨ao1,cc1,rfl⟩:=o1.shape;obtain ⟨ao2,cc2,rfl⟩:=o2.shape;rw [aP] at o1 ⊢;rw [aP] at o2 ⊢;have O1:=ab o1;have O2:=ab o2;have SP:=ab sp;have Q1:=ab q1;have Q2:=ab q2;have G2:=ab (aa G1.out g2);clear o1 o2 sp q1 q2 g2 n0;go_upto_region 4 with fail;obtain ⟨ga,hga⟩:∃ ga,ga=w2.heap.size:=⟨_,rfl⟩;obtain ⟨gf,hgf⟩:∃ gf,gf=w2.heap.size+1:=⟨_,rfl⟩;obtain ⟨w3,hw3⟩:∃ w3,w3=(w2.alloc (Obj.cells #[.slice ao1 n1 cc1,.slice ao2 n2 cc2] 29)).alloc (Obj.cells #[.int .i64 c1,.int .i64 c2] 32):=⟨_,rfl⟩;have G23:Hid (w2.grownBy w3 none):=by rw [hw3];exact ag (ag (ae _ _) _) _
 have G3:Hid (W.grownBy w3 none):=aa G2.out G23.out;have AX:Hid (kO w3 ga (.slice ao1 n1 cc1) (.slice ao2 n2 cc2)):=by rw [hw3,hga];exact ⟨by go_simp,by go_simp⟩
 have FX:Hid (dI w3 gf c1 c2):=by
  show w3.heap[gf]? = _
  rw [hw3,hgf];have:=heap_alloc_new (w2.alloc (Obj.cells #[.slice ao1 n1 cc1,.slice ao2 n2 cc2] 29)) (Obj.cells #[.int .i64 c1,.int .i64 c2] 32);simpa using this
 have HGA:Hid (W.heap.size<=ga/\ga<gf/\gf<w3.heap.size):=by
  have:=G2.out.size;rw [hga,hgf,hw3];exact ⟨this,by omega,by simp⟩
 rw [<- hw3];try rw [<- hgf]
 try rw [<- hga]
 clear hw3 hga hgf;obtain ⟨f0,f1,f2,f3⟩:=FX.out.cells;have n0:=NC.out w3 G3.out;have GW3:=ab (aa GW.out G3.out);by_cases hx:c1≠0
 ·have hxd:(c1 != 0)=true:=by simp [hx]
  go_wp2;go_ret;exact ⟨rfl,GW3.out⟩
 replace hx:c1=0:=Classical.not_not.1 hx;subst hx;obtain ⟨hck,hc2,hn1,hn2,hsol,huq⟩:=SP.out.one;subst hc2;obtain ⟨hRN,hnn,hle,_⟩:=gR hck;have HFX:Hid (kS nodes.toNat ps):=tz hsol huq;obtain ⟨hGD,hCN⟩:=good_of (show (d6 nodes ps).1=0 by rw [vD hck]);obtain ⟨n,hn⟩:∃ n,n=nodes.toNat:=⟨_,rfl⟩;rw [<- hn] at hRN hnn hn1 hsol HFX hGD;subst hnn;subst hn1;subst hn2;have hn8:n1<=8:=hRN.hi;have HRN:=ab hRN;have HGD:=ab hGD;have HCN:=ab hCN;have HCK:=ab hck;have HSOL:=ab hsol;clear hRN hGD hCN hck hsol huq SP hn;go_wp2_with fail;refine (BP _ po pc ps 2300000 w3 (HB.out.keep GW3.out) (HT.out.keep0 GW3.out) (HP.out.keep GW3.out) (tZ ps HSZ.out) (by decide) (by decide)).mono ?_;rintro e w4 ⟨d1,d2,m1,m2,V',I',pv,rfl,o3,sp3,g4,q3⟩;obtain ⟨hd1,hd2,hm1,hm2,hs3⟩:=sp3.fixed HCK.out (by rw [Int.toNat_natCast];exact HFX.out);subst hd1 hd2 hm2;rw [Int.toNat_natCast] at hs3;obtain ⟨ao3,cc3,rfl⟩:=o3.shape;rw [aP] at o3 ⊢;have O3:=ab o3;have Q3:=ab q3;have G4:=ab (aa G3.out g4);have GS4:=ab g4;have HS3:Hid (bm (BO ps V' I') ps.length=0):=hs3.power HRN.out;clear o3 sp3 q3 g4 hs3 n0 f0 f1 f2 f3 hm1;have F4:=ab (FX.out.keep0 GS4.out);obtain ⟨f0,f1,f2,f3⟩:=F4.out.cells;go_upto_region 7 with fail;rw [F4.out.again];have n0:=NC.out w4 G4.out;have ax:kO w4 ga (.slice ao1 n1 cc1) (.slice ao2 ps.length cc2):=⟨GS4.out.cell AX.out.1 (by simp),GS4.out.cell AX.out.2 (by simp)⟩;obtain ⟨ml,hml⟩:=HB.out.2.1;have ML:Hid (∀ wx,W.grownBy wx none->wx.cell? ⟨1,0,none⟩=some (.int .i64 ml)):=fun wx hg=>(aa GW.out hg).cell hml (by simp)
 clear hml;go_wp2_with fail;refine (Cp ao3 ps.length cc3 (BO ps V' I') 6900003 ml w4 (ML.out w4 G4.out) (uS O3.out.row) hle (fun j hj=>Q3.out j hj) (by decide) (by decide)).mono ?_;rintro e w5 ⟨bs,rfl,s1,s2,s3⟩;have S1:=ab s1;have GS5:=ab (aa GS4.out s2);have G5:=ab (aa G4.out s2);have F5:=ab (F4.out.keep0 s2);clear s1 s2 s3 n0 ax f0 f1 f2 f3 O3 Q3 F4;have n0:=NC.out w5 G5.out;have ax:kO w5 ga (.slice ao1 n1 cc1) (.slice ao2 ps.length cc2):=⟨GS5.out.cell AX.out.1 (by simp),GS5.out.cell AX.out.2 (by simp)⟩;go_wp2_with fail;refine (pJ bs _ _ w5 S1.out).mono ?_;rintro e w5' ⟨rfl,rfl⟩;have hsg:sn (bm (BO ps V' I') ps.length).num=0:=by rw [HS3.out];rfl
 rw [hsg];clear hsg HS3 S1;have hls:(((n1:Nat):Int) != ((n1:Nat):Int))=false:=by simp
 go_wp2_with fail;refine (Bu _ _ ps n1 w5' (HB.out.keep (aa GW.out G5.out)) (HP.out.keep (aa GW.out G5.out)) HGD.out HCN.out).mono ?_;rintro e w6 ⟨lv,rfl,l1,l2⟩;obtain ⟨vals,v1,v2,v3⟩:=l1;obtain ⟨lo,lc,rfl,v4,v5,v6⟩:=v1;unfold maxLen at v5;have F6:=ab (F5.out.keep0 l2);have G6:=ab (aa G5.out l2);have GS6:=ab (aa GS5.out l2);have VC:Hid (∀ i (h:i<vals.length),∃ b off,lo=some ⟨b,off,none⟩/\b<w6.heap.size/\w6.cell? ⟨b,off+i,none⟩=some vals[i]):=v6;have RW:Hid (∀ i (h:i<vals.length),∃ l:List Int,l.length=ps.length/\bm (fun j=>((l.getD j 0:Int):Rat)*qh ps V j) ps.length=0/\(∀ x∈l,-1<=x/\x<=1)/\dM iv w6 vals[i] l):=by
  intro i hi;have hi':i<(cK ps.length (aG (aW ps)) (bM (aW ps) (aG (aW ps))) ps.length).length:=by rw [<- v2];exact hi
  have hm:=List.getElem_mem hi';obtain ⟨a1,a2⟩:=Bt HRN.out V _ hm;exact ⟨_,a1,a2,loop_bd _ _ _ _ _ hm,v3 i hi hi'⟩
 have O6:Hid (dM sv w6 (.slice ao1 n1 cc1) (bI V n1)):=((O1.out.keep0 G23.out).keep0 GS6.out).row;have AC:Hid (∀ wx,w6.grownBy wx none->∀ i,i<ps.length->Calls Tryz.prog 11 #[.int .i64 (i:Int),.pointer (some ⟨ga,0,none⟩),.pointer (some ⟨gn,0,none⟩)] wx fun e w'=>RQE wx (qh ps V i) 4600003 e w'):=by
  intro wx hg i hi;have hg2:=aa GS6.out hg;exact yj HRN.out (K:=2300000) (by decide) (by decide) Q1.out ga gn cc1 pc i ao1 po ml wx (ML.out wx (aa G6.out hg)) (hg2.cell AX.out.1 (by simp)) (NC.out wx (aa G6.out hg)).2 (HP.out.keep (aa GW.out (aa G6.out hg))) (O6.out.keep hg) hi
 clear l2 v2 v3 v6 n0 ax F5 O6 O1 Q1;obtain ⟨f0,f1,f2,f3⟩:=F6.out.cells;go_upto_region 10 with fail;rw [F6.out.again];go_wp2;go_loopw [76] (fun v wr=>Hid (TlA w6 vals.length v wr)) (fun v _=>vals.length-(intOf v).toNat)
 case atStart=>exact ⟨0,by omega,rfl,ae _ _⟩
 case round =>
  obtain ⟨i,hi,rfl,l1⟩:=hrel.out;have L1:=ab l1;clear l1 hrel;obtain ⟨wo,hwo⟩:∃ wo,wo=wr:=⟨_,rfl⟩;subst hwo;by_cases hlt:i<vals.length
  ·obtain ⟨b0,off0,rfl,hb0,hc0⟩:=VC.out i hlt;obtain ⟨l,hll,hls,hlb,hlr⟩:=RW.out i hlt;obtain ⟨xo,xc,ex,hx1,hx2,hx3⟩:=hlr;rw [ex,hll] at hc0;rw [hll] at hx1;unfold maxLen at hx2;have c0:=L1.out.cell hc0 (by simp);have HX3:Hid (∀ j (h:j<l.length),∃ b off,xo=some ⟨b,off,none⟩/\b<w6.heap.size/\w6.cell? ⟨b,off+j,none⟩=some (iv l[j])):=hx3;have HLL:=ab hll;have HLS:=ab hls;have HLB:=ab hlb;clear hll hls hlb hx3 hc0 ex;go_upto_region 17 with fail;obtain ⟨bz,hbz⟩:∃ bz,bz=wo.heap.size:=⟨_,rfl⟩;obtain ⟨wz,hwz⟩:∃ wz,wz=wo.alloc (.cells #[.bool false,.slice none 0 0,.bool false,.slice none 0 0] 53):=⟨_,rfl⟩;have Z0:Hid (RV wz bz 0 2):=by rw [hwz,hbz];exact rV wo 2
   have GZ:Hid (wo.grownBy wz none):=by rw [hwz];exact ag (ae _ _) _
   have HBZ:Hid (wo.heap.size<=bz):=Nat.le_of_eq hbz.symm;rw [<- hwz,<- hbz];clear hwz hbz c0;obtain ⟨P,hP⟩:∃ P:Nat->Rat,P=fun j=>((l.getD j 0:Int):Rat)*qh ps V j:=⟨_,rfl⟩
   have HPJ:Hid (∀ j,P j=((l.getD j 0:Int):Rat)*qh ps V j):=by intro j;rw [hP]
   have HPS:Hid (bm P ps.length=0):=by rw [hP];exact HLS.out
   clear hP HLS;go_wp2;go_loopw [83] (fun v wr=>Hid (SofR wo bz ps.length P 4600009 v wr)) (fun v _=>ps.length-(intOf v).toNat)
   case atStart=>exact ⟨0,by omega,rfl,by rw [Nat.zero_mul];exact Z0.out,GZ.out⟩
   case round =>
    obtain ⟨j,hj,rfl,k1,k2⟩:=hrel.out;have K1:=ab k1;have K2:=ab k2;clear k1 k2 hrel;by_cases hjl:j<ps.length
    ·obtain ⟨b1,off1,rfl,hb1,hc1⟩:=HX3.out j (by rw [HLL.out];exact hjl);obtain ⟨c,hc⟩:∃ c,c=l[j]'(by rw [HLL.out];exact hjl):=⟨_,rfl⟩;have hcb:=HLB.out c (by rw [hc];exact List.getElem_mem _);have HCG:Hid (l.getD j 0=c):=by show _=_;rw [List.getD_eq_getElem?_getD,List.getElem?_eq_getElem (by rw [HLL.out];exact hjl),hc];rfl
     rw [<- hc] at hc1;have g0:=aa L1.out K2.out;have c1:wr.cell? ⟨b1,off1+j,none⟩=some (.int .i64 c):=g0.cell hc1 (by simp);have GR:=ab g0;clear hc hc1 g0;go_wp2_with fail;refine (rN_at c wr (by omega) (by omega)).mono ?_;rintro e wa ⟨ba,rfl,x1,x2,x3⟩;have X1:=ab x1;have GA:=ab (aa GR.out x2);have KA:=ab (aa K2.out x2);have ZA:=ab (K1.out.keep0 x2);clear x1 x2 x3 c1;go_wp2_with fail;refine (AC.out wa GA.out j hjl).mono ?_;rintro e wb ⟨bb,rfl,y1,y2,y3⟩;have Y1:=ab y1;have X2:=ab (X1.out.keep0 y2);have GB:=ab (aa GA.out y2);have KB:=ab (aa KA.out y2);have ZB:=ab (ZA.out.keep0 y2);clear y1 y2 y3 X1 GA KA ZA;go_wp2_with fail;refine (q9 ba bb _ _ 4 4600003 wb X2.out.x Y1.out.x (by decide)).mono ?_;rintro e wc ⟨bc,rfl,y1,y2,y3⟩;have M1:=ab y1;have KC:=ab (aa KB.out y2);have ZC:=ab (ZB.out.keep0 y2);have hbd:j*(4600009+3)<=16*(4600009+3):=Nat.mul_le_mul_right _ (by omega);clear y1 y2 y3 X2 Y1 GB KB ZB;go_wp2_with fail;refine (oD bz bc (bm P j) _ (2+j*(4600009+3)) 4600009 wc ZC.out M1.out.x (by omega) (by omega)).mono ?_;rintro e wd ⟨rfl,r1,r2⟩;have RR:Hid (RV wd bz (bm P (j+1)) (2+(j+1)*(4600009+3))):=by
      show RV _ _ _ _
      rw [aQ,HPJ.out,HCG.out,show 2+(j+1)*(4600009+3)=2+j*(4600009+3)+4600009+3 by rw [Nat.add_mul];omega];exact .inl r2
     have GD:=ab (kA KC.out r1 HBZ.out);clear r1 r2 M1 KC ZC;go_wp2;go_roundw
     case rel=>exact ⟨j+1,by omega,by go_num,RR.out,GD.out⟩
     case measure=>simp [intOf];omega
    ·obtain rfl:j=ps.length:=by omega
     go_wp2_with fail;refine (pJ bz _ _ wr K1.out).mono ?_;rintro e wr' ⟨rfl,rfl⟩;have hsg:sn (bm P ps.length).num=0:=by rw [HPS.out];rfl
     rw [hsg];go_wp2;go_roundw
     case rel=>exact ⟨i+1,by omega,by go_num,aa L1.out K2.out⟩
     case measure=>simp [intOf];omega
  ·obtain rfl:i=vals.length:=by omega
   have n0:=NC.out wo (aa G6.out L1.out);clear VC RW;go_upto_region 26 with fail;obtain ⟨gm,hgm⟩:∃ gm,gm=wo.heap.size:=⟨_,rfl⟩;obtain ⟨wm,hwm⟩:∃ wm,wm=wo.alloc (Obj.cells #[.int .i64 ((n1:Nat):Int),.slice none 0 0] 24):=⟨_,rfl⟩;have GM:Hid (wo.grownBy wm none):=by rw [hwm];exact ag (ae _ _) _
   have M1:Hid (kZ wm gm (.int .i64 ((n1:Nat):Int)) (.slice none 0 0)):=by rw [hwm,hgm];exact heap_alloc_new wo _
   have HGM:Hid (gm=wo.heap.size):=hgm;rw [<- hwm,<- hgm];clear hwm hgm n0;have n0:=NC.out wm (aa (aa G6.out L1.out) GM.out);obtain ⟨qs,hqs⟩:∃ qs,qs=By ps ks vs:=⟨_,rfl⟩;have HQS:=ab hqs;clear hqs;go_wp2;go_loopw [108] (fun iv wr=>Hid (TlM wo (gm+1) gm ((n1:Nat):Int) qs ps.length iv wr)) (fun iv _=>ps.length-(intOf iv).toNat)
   case atStart=>exact ⟨0,_,by omega,rfl,M1.out,by rw [List.take_zero];exact World.ownsRow_nil _ _ _ _,GM.out⟩
   case round =>
    obtain ⟨i,v,hi,rfl,l1,l2,l3⟩:=hrel.out;obtain ⟨vo,vc,rfl,hvc⟩:=l2.shape;have hql:qs.length=ps.length:=by rw [HQS.out];exact pg _ _ _
    have hlt':(qs.take i).length=i:=by rw [List.length_take];omega
    rw [hlt'] at l1 l2;have N1:=ab l1;have N2:=ab l2;have N3:=ab l3;have HQL:=ab hql;clear l1 l2 l3 hrel hlt' hql n0;obtain ⟨m0,m1,m2,m3⟩:=N1.out.cells;by_cases hlt:i<ps.length
    ·obtain ⟨po',pc',e0,_,_,hps⟩:=HP.out;obtain ⟨b0,off,e1,hb,c0,c1,c2,c3,c4,c5,c6⟩:=hps i hlt;have e2:po=po':=by injection e0
     have e4:pc=pc':=by injection e0
     subst e2 e4;subst e1;have hgg:=aa GW.out (aa G6.out (aa L1.out N3.out));obtain ⟨q,hq⟩:∃ q,q=ps[i]:=⟨_,rfl⟩;rw [<- hq] at c0 c1 c2 c3 c4 c5 c6;have q0:=hgg.cell c0 (by simp);have q1:=hgg.cell c1 (by simp);have q2:=hgg.cell c2 (by simp);have q3:=hgg.cell c3 (by simp);have q4:=hgg.cell c4 (by simp);have q5:=hgg.cell c5 (by simp);have HQ:=ab hq;have HTK:Hid (qs.take (i+1)=qs.take i++[mP ps ks vs i]):=by
      show _=_
      rw [List.take_succ_eq_append_getElem (by rw [HQL.out];exact hlt)];congr 2
      have e:=HQS.out;subst e;exact xG ps ks vs i hlt _
     have HLEN:Hid ((qs.take i).length=i):=by show _=_;rw [List.length_take,HQL.out];omega
     clear c0 c1 c2 c3 c4 c5 c6 hq hps e0 hgg m0 m1 m2 m3;go_upto_region 29 with fail;obtain ⟨gq,hgq⟩:∃ gq,gq=wr.heap.size:=⟨_,rfl⟩;obtain ⟨w7,hw7⟩:∃ w7,w7=wr.alloc (Obj.cells #[.int .i64 q.kind,.int .i64 q.a,.int .i64 q.b,.int .i64 q.c,.int .i64 q.d,.string q.v] 47):=⟨_,rfl⟩;have G7:Hid (wr.grownBy w7 none):=by rw [hw7];exact ag (ae _ _) _
     have p1:w7.cell? ⟨gq,1,none⟩=some (.int .i64 q.a):=by rw [hw7,hgq];go_simp
     have p2:w7.cell? ⟨gq,2,none⟩=some (.int .i64 q.b):=by rw [hw7,hgq];go_simp
     rw [<- hw7,<- hgq];clear hw7 hgq q0 q1 q2 q3 q4 q5;go_wp2_with fail;refine (ja 1 q.a q.b _ _).mono ?_;rintro e w8 ⟨rfl,g8⟩;have G8:=ab (aa G7.out g8);clear g8 p1 p2 G7;go_upto_region 30 with fail;obtain ⟨gy,hgy⟩:∃ gy,gy=w8.heap.size:=⟨_,rfl⟩;obtain ⟨w9,hw9⟩:∃ w9,w9=w8.alloc (Obj.cells #[.int .i64 1,.int .i64 q.a,.int .i64 q.b,.int .i64 0,.int .i64 0,.string ⟨#[49]⟩] 47):=⟨_,rfl⟩;have G9:Hid (wr.grownBy w9 none):=by rw [hw9];exact ag G8.out _
     have H9:Hid (w9.heap[gy]? = some (Obj.cells #[.int .i64 1,.int .i64 q.a,.int .i64 q.b,.int .i64 0,.int .i64 0,.string ⟨#[49]⟩] 47 (0,0))):=by
      show _=_
      rw [hw9,hgy];exact heap_alloc_new w8 _
     have HGY:Hid (wr.heap.size<=gy):=by rw [hgy];exact G8.out.size
     rw [<- hw9,<- hgy];clear hw9 hgy G8;have h3:ks.length=0∨(0<ks.length/\vs.length=0)∨(0<ks.length/\0<vs.length):=by omega
     rcases h3 with hkv | hkv | hkv
     case' inl =>
      have HM:Hid (mP ps ks vs i=⟨1,q.a,q.b,0,0,⟨#[49]⟩⟩):=by
       show _=_
       unfold mP;rw [List.getElem?_eq_getElem hlt,<- HQ.out];simp [hkv]
      have hkv1:¬ 0<ks.length:=by omega
      clear hkv;go_upto_region 32 with fail;obtain ⟨wc,hwc⟩:∃ wc,wc=w9:=⟨_,rfl⟩;have y1:wc.heap[gy]? = some (Obj.cells (bB (mP ps ks vs i)).toArray 47 (0,0)):=by rw [HM.out,hwc];exact H9.out
      have y2:w9.grownBy wc (some gy):=by rw [hwc];exact ae _ _
      rw [<- hwc];clear hwc HM
     case' inr.inl =>
      have HM:Hid (mP ps ks vs i=⟨1,q.a,q.b,0,0,⟨#[49]⟩⟩):=by
       show _=_
       unfold mP;rw [List.getElem?_eq_getElem hlt,<- HQ.out];simp [hkv]
      have hkv1:=hkv.1;have hkv2:¬ 0<vs.length:=by omega
      clear hkv;go_upto_region 32 with fail;obtain ⟨wc,hwc⟩:∃ wc,wc=w9:=⟨_,rfl⟩;have y1:wc.heap[gy]? = some (Obj.cells (bB (mP ps ks vs i)).toArray 47 (0,0)):=by rw [HM.out,hwc];exact H9.out
      have y2:w9.grownBy wc (some gy):=by rw [hwc];exact ae _ _
      rw [<- hwc];clear hwc HM
     case' inr.inr =>
      obtain ⟨ko',kc',e0,_,hk2,hks⟩:=HK.out;have hk0:i % ks.length<ks.length:=Nat.mod_lt _ hkv.1;have hv0:i % vs.length<vs.length:=Nat.mod_lt _ hkv.2;obtain ⟨kb,kof,e1,hkb,d0⟩:=hks (i % ks.length) hk0;obtain ⟨vo',vc',e5,_,hv2,hvs⟩:=HV.out;obtain ⟨vb,vof,e6,hvb,d1⟩:=hvs (i % vs.length) hv0;have e2:ko=ko':=by injection e0
      have e4:kc=kc':=by injection e0
      have e7:vo_=vo':=by injection e5
      have e8:vc_=vc':=by injection e5
      subst e2 e4 e7 e8;subst e1 e6;have hgg:=aa GW.out (aa G6.out (aa L1.out (aa N3.out G9.out)));have q0:=hgg.cell d0 (by simp);have q1:=hgg.cell d1 (by simp);obtain ⟨kx,hkx⟩:∃ kx,kx=i % ks.length:=⟨_,rfl⟩;obtain ⟨vx,hvx⟩:∃ vx,vx=i % vs.length:=⟨_,rfl⟩;have t1:((i:Nat):Int).tmod ((ks.length:Nat):Int)=(kx:Int):=by rw [hkx,Int.tmod_eq_emod_of_nonneg (by omega),Int.natCast_emod]
      have t2:((i:Nat):Int).tmod ((vs.length:Nat):Int)=(vx:Int):=by rw [hvx,Int.tmod_eq_emod_of_nonneg (by omega),Int.natCast_emod]
      obtain ⟨z,hz⟩:∃ z,z=ks[i % ks.length]:=⟨_,rfl⟩;obtain ⟨u,hu⟩:∃ u,u=vs[i % vs.length]:=⟨_,rfl⟩;have HM:Hid (mP ps ks vs i=⟨z,q.a,q.b,0,0,u⟩):=by
       show _=_
       unfold mP;rw [List.getElem?_eq_getElem hlt,<- HQ.out];simp only [hkv,and_self,dite_true];rw [hz,hu]
      rw [<- hz] at q0;rw [<- hu] at q1;rw [<- hkx] at q0 hk0;rw [<- hvx] at q1 hv0;have q0':w9.cell? ⟨kb,kof+kx,none⟩=some (.int .i64 z):=q0;have q1':w9.cell? ⟨vb,vof+vx,none⟩=some (.string u):=q1;have y0:w9.cell? ⟨gy,0,none⟩=some (.int .i64 1):=by simp [World.cell?,H9.out]
      have y5:w9.cell? ⟨gy,5,none⟩=some (.string ⟨#[49]⟩):=by simp [World.cell?,H9.out]
      have z0:w9.frozen? ⟨gy,0,none⟩=false:=by simp [World.frozen?,H9.out]
      have z5:w9.frozen? ⟨gy,5,none⟩=false:=by simp [World.frozen?,H9.out]
      have hkv1:=hkv.1;have hkv2:=hkv.2;unfold maxLen at hk2 hv2;clear e0 e5 hks hvs d0 d1 hgg q0 q1 hkx hvx hz hu hkv;have hgy:w.heap.size<=gy:=Nat.le_trans (aa GW.out (aa G6.out (aa L1.out N3.out))).size HGY.out;have hne1:kb≠gy:=by omega
      have hne2:vb≠gy:=by omega
      clear hgy hkb hvb;go_upto_region 31 with fail;go_region
      obtain ⟨wc,hwc⟩:∃ wc,wc=((w9.setCell ⟨gy,0,none⟩ (.int .i64 z)).setCell ⟨gy,5,none⟩ (.string u)).drew:=⟨_,rfl⟩;have y1:wc.heap[gy]? = some (Obj.cells (bB (mP ps ks vs i)).toArray 47 (0,0)):=by
       rw [HM.out,hwc];show ((w9.setCell ⟨gy,0,none⟩ (.int .i64 z)).setCell ⟨gy,5,none⟩ (.string u)).heap[gy]? = _
       rw [heap_setCell_same _ gy 5 _ _ _ (heap_setCell_same _ gy 0 _ _ _ H9.out)];simp [bB]
      have y2:w9.grownBy wc (some gy):=by rw [hwc];exact au (aq (cY _ _ _ _) (cY _ _ _ _) (fun _ _ e=>e) (fun _ _ e=>e)) 1
      rw [<- hwc];clear hwc HM q0' q1' y0 y5 z0 z5 t1 t2 hk0 hv0 hkv1 hkv2 hne1 hne2 hk2 hv2;go_upto_region 32 with fail
     all_goals
      have hgmy:gm≠gy:=by have:=N1.out.lt;have:=HGY.out;omega
      have B5:=ab ((N1.out.keep G9.out (by simp)).keep y2 (fun e=>hgmy (Option.some.inj e)));have O5:Hid (fg wc (gm+1) (.slice vo i vc) (qs.take i)):=by
       refine (N2.out.keep0 G9.out).kept y2 ?_;cases hv:(Value.slice vo i vc).ownBlock with
       | none=>exact .inl rfl
       | some k =>
        right
        intro e;have:=(World.ownsRow.lt N2.out k hv).2;have:=Option.some.inj e;have:=HGY.out;omega
      have G10:Hid (wo.grownBy wc none):=aq (r:=none) (aa N3.out G9.out) y2 (fun _ _ e=>e) (fun k hk e=>by have:=Option.some.inj e;have:=HGY.out;have:=N3.out.size;omega);have HSZ3:Hid (gm+1<=wc.heap.size):=B5.out.lt;obtain ⟨r,hr⟩:∃ r,r=mP ps ks vs i:=⟨_,rfl⟩;rw [<- hr] at y1 HTK;have x0:wc.cell? ⟨gy,0,none⟩=some (.int .i64 r.kind):=by simp [World.cell?,y1,bB]
      have x1:wc.cell? ⟨gy,1,none⟩=some (.int .i64 r.a):=by simp [World.cell?,y1,bB]
      have x2:wc.cell? ⟨gy,2,none⟩=some (.int .i64 r.b):=by simp [World.cell?,y1,bB]
      have x3:wc.cell? ⟨gy,3,none⟩=some (.int .i64 r.c):=by simp [World.cell?,y1,bB]
      have x4:wc.cell? ⟨gy,4,none⟩=some (.int .i64 r.d):=by simp [World.cell?,y1,bB]
      have x5:wc.cell? ⟨gy,5,none⟩=some (.string r.v):=by simp [World.cell?,y1,bB]
      have HCL:Hid (∀ j u,(bB r)[j]? = some u->(wc.alloc (Obj.cells #[.int .i64 r.kind,.int .i64 r.a,.int .i64 r.b,.int .i64 r.c,.int .i64 r.d,.string r.v] 47)).cell? ((⟨wc.heap.size,0,none⟩:Addr).add j)=some u):=by
       intro j u hj;have hn:=heap_alloc_new wc (Obj.cells #[.int .i64 r.kind,.int .i64 r.a,.int .i64 r.b,.int .i64 r.c,.int .i64 r.d,.string r.v] 47);rw [show (⟨wc.heap.size,0,none⟩:Addr).add j=⟨wc.heap.size,j,none⟩ from by unfold Addr.add;split<;>simp_all];simp only [World.cell?,hn];rw [<- hj];simp [bB]
      obtain ⟨m0,m1,m2,m3⟩:=B5.out.cells;have HRP:=ab hr;clear hr y1 y2;go_wp2_with (at_builtin;refine nP _ rfl _ _ 22 rfl (gm+1) Tryz.underlying22 Tryz.infoPart (.slice vo i vc) (qs.take i) rfl (O5.out.keep0 (ag (ae _ _) _)) wc.heap.size r rfl HCL.out (by rw [HLEN.out];omega) (by simp;have:=HSZ3.out;omega) ?_)
      intro ao cap5 w11 hown hgr;try rw [HLEN.out] at hown
      try rw [HLEN.out]
      rw [<- HTK.out] at hown;have O11:=ab hown;have hne5:some gm≠(Value.slice vo i vc).ownBlock:=by
       rcases O5.out.ne (b:=gm) (by omega) with e | e
       ·rw [e];simp
       ·exact fun e2=>e e2.symm
      have B11:=ab ((B5.out.keep (ag (ae wc none) (Obj.cells #[.int .i64 r.kind,.int .i64 r.a,.int .i64 r.b,.int .i64 r.c,.int .i64 r.d,.string r.v] 47)) (by simp)).keep hgr hne5);have G11:Hid (wo.grownBy w11 none):=by
       refine aq (r:=none) (aa G10.out (ag (ae wc none) _)) hgr (fun _ _ e=>e) (fun k hk e=>?_);have:=(World.ownsRow.lt O5.out k e.symm).1;have:=HGM.out;omega
      clear hown hgr hne5 m0 m1 m2 m3 x0 x1 x2 x3 x4 x5;obtain ⟨m0,m1,m2,m3⟩:=B11.out.cells;go_wp2;go_roundw
      case rel=>exact ⟨i+1,_,by omega,by go_num,B11.out.set1 _,O11.out.kept (cY _ _ _ _) (O11.out.ne (by omega)),ai G11.out _ _ (show wo.heap.size<=gm by have:=HGM.out;omega)⟩
      case measure=>simp [intOf];omega
    ·obtain rfl:i=ps.length:=by omega
     have N4:Hid (fg wr (gm+1) (.slice vo ps.length vc) qs):=by
      have:=N2.out;rw [show qs.take ps.length=qs from by rw [<- HQL.out];exact List.take_length] at this;exact this
     have hq600:∀ p∈qs,p.v.size<=600000000:=by
      intro p hp;rw [HQS.out] at hp;obtain ⟨k,_,rfl⟩:=List.mem_map.1 hp;have:=xF ps ks vs HSV.out k;omega
     have GWr:=ab (aa GW.out (aa G6.out (aa L1.out N3.out)));have SV:Hid (Calls Tryz.prog 6 #[.agg #[.int .i64 ((n1:Nat):Int),.slice vo ps.length vc]] wr fun e w'=>Aq wr ((n1:Nat):Int) qs 35300000 e w'):=by
      have h1:=N4.out.parts hq600;rw [<- HQL.out] at h1;have h2:=mO ((n1:Nat):Int) vo vc qs 35300000 wr (HB.out.keep GWr.out) (HT.out.keep0 GWr.out) h1 (by rw [HQS.out];exact m_fits ps ks vs HSV.out hle) (by decide) (by decide);rw [HQL.out] at h2;exact h2
     clear hq600;go_wp2_with fail;refine SV.out.mono ?_;rintro e wx ⟨d1,d2,k1,k2,U,J,uv,jv,rfl,u1,u2,sp,g7,r1,r2⟩;obtain ⟨uo,uc,rfl⟩:=u1.shape;obtain ⟨jo,jc,rfl⟩:=u2.shape;rw [aP] at u1 u2 ⊢;rw [aP];have U2:=ab u2;have SP2:=ab sp;have R2:=ab r2;have GX:=ab (aa (aa L1.out N3.out) g7);clear u1 u2 sp g7 r1 r2 SV m0 m1 m2 m3;obtain ⟨gb,hgb⟩:∃ gb,gb=wx.heap.size:=⟨_,rfl⟩;obtain ⟨wy,hwy⟩:∃ wy,wy=wx.alloc (Obj.cells #[.slice uo k1 uc,.slice jo k2 jc] 29):=⟨_,rfl⟩;have GY:Hid (wx.grownBy wy none):=by rw [hwy];exact ag (ae _ _) _
     have BY:Hid (∀ wz,wy.grownBy wz none->wz.cell? ⟨gb,1,none⟩=some (.slice jo k2 jc)):=by
      intro wz hg;rw [hwy] at hg;rw [hgb];exact hg.cell (by go_simp) (by simp)
     have FY:=ab (F6.out.keep0 (aa GX.out GY.out));obtain ⟨f0,f1,f2,f3⟩:=FY.out.cells;rw [hwy] at f0 f1 f2 f3;have HGFW:Hid (W.heap.size<=gf):=Nat.le_trans HGA.out.1 (Nat.le_of_lt HGA.out.2.1);go_upto_region 35 with fail;rw [<- hwy,<- hgb];clear f0 f1 f2 f3;have HGB:Hid (gb<wy.heap.size):=by show _<_;rw [hwy,hgb];simp
     clear hwy hgb;by_cases hd:d1=0
     ·subst hd;obtain ⟨hck2,hd2,hk1,hk2,hs2,_⟩:=SP2.out.one;subst hd2;rw [Int.toNat_natCast] at hs2 hk1;have hRQ:=(gR hck2).1;rw [Int.toNat_natCast] at hRQ;rw [HQL.out] at hk2;subst hk2;have TS:Hid (bm (fun i=>qh ps V i*J i) ps.length=0):=by
       refine Cu HRN.out hRQ HQL.out (fun i h h'=>?_) HSOL.out hs2;have e:=HQS.out;subst e;rw [xG ps ks vs i h h'];exact ⟨(xE ps ks vs i h).1,(xE ps ks vs i h).2.1⟩
      clear hck2 hk1 hs2 hRQ SP2;rw [FY.out.again];have n0:=NC.out wy (aa G6.out (aa GX.out GY.out));obtain ⟨f0,f1,f2,f3⟩:=FY.out.cells;go_upto_region 38 with fail;obtain ⟨bz,hbz⟩:∃ bz,bz=wy.heap.size:=⟨_,rfl⟩;obtain ⟨wz,hwz⟩:∃ wz,wz=wy.alloc (.cells #[.bool false,.slice none 0 0,.bool false,.slice none 0 0] 53):=⟨_,rfl⟩;have Z0:Hid (RV wz bz 0 2):=by rw [hwz,hbz];exact rV wy 2
      have GZ:Hid (wy.grownBy wz none):=by rw [hwz];exact ag (ae _ _) _
      have HBZ:Hid (wy.heap.size<=bz):=Nat.le_of_eq hbz.symm;rw [<- hwz,<- hbz];clear hwz hbz n0 f0 f1 f2 f3;have n0:=NC.out wz (aa (aa G6.out (aa GX.out GY.out)) GZ.out);obtain ⟨P,hP⟩:∃ P:Nat->Rat,P=fun j=>qh ps V j*J j:=⟨_,rfl⟩
      have HPJ:Hid (∀ j,P j=qh ps V j*J j):=by intro j;rw [hP]
      have HPS:Hid (bm P ps.length=0):=by rw [hP];exact TS.out
      have HJT:Hid (∀ j,j<ps.length->∃ g off,jo=some ⟨g,off,none⟩/\wy.cell? ⟨g,off+j,none⟩=some (.string ⟨(bS (J j)).toArray⟩)):=uS (U2.out.keep0 GY.out).row;clear hP TS U2;go_wp2;go_loopw [161] (fun v wr=>Hid (SofR wy bz ps.length P 39900005 v wr)) (fun v _=>ps.length-(intOf v).toNat)
      case atStart=>exact ⟨0,by omega,rfl,by rw [Nat.zero_mul];exact Z0.out,GZ.out⟩
      case round =>
       obtain ⟨j,hj,rfl,k1,k2⟩:=hrel.out;have K1:=ab k1;have K2:=ab k2;clear k1 k2 hrel n0;by_cases hjl:j<ps.length
       ·obtain ⟨g,off,rfl,hc⟩:=HJT.out j hjl;have X2h:=fun wx h=>nX (J j) 35300000 ml wx (by decide) (R2.out j hjl) (by decide) h
        have c0:=K2.out.cell hc (by simp);obtain ⟨T,hT⟩:∃ T:ByteArray,T=⟨(bS (J j)).toArray⟩:=⟨_,rfl⟩;rw [<- hT] at c0 X2h hc;clear hT;have i0:(0:Int)<=(j:Int):=by omega
        have i1:(j:Int)<(ps.length:Int):=by omega
        have CX:Hid (∀ wx,wr.grownBy wx none->wx.cell? ⟨gb,1,none⟩=some (.slice (some ⟨g,off,none⟩) ps.length jc)/\wx.cell? ⟨g,off+j,none⟩=some (.string T)):=fun wx hg=>⟨BY.out wx (aa K2.out hg),hg.cell c0 (by simp)⟩
        have GG:wr.grownBy wr none:=ae _ _;have s0:=CX.out wr GG;have hbd:j*(39900005+3)<=16*(39900005+3):=Nat.mul_le_mul_right _ (by omega);have GP:=ab (aa GX.out (aa GY.out K2.out));have NZ:Hid (gb≠bz/\g≠bz):=by
         have h1:=HGB.out;have h2:=HBZ.out;have h3:g<wy.heap.size:=cO hc;exact ⟨by omega,by omega⟩
        clear hc c0;go_wp2;go_region_held3 (fun w'=>w'.cell? ⟨gb,1,none⟩=some (.slice (some ⟨g,off,none⟩) ps.length jc)/\w'.cell? ⟨g,off+j,none⟩=some (.string T)) (go_keep)
         (first
          | (go_at_call 11;refine (AC.out _ (aa GP.out (gx GG)) j hjl).mono ?_;rintro e wa ⟨ba,rfl,y1,y2,y3⟩;have GG:=aa (gx GG) y2;have k0:=CX.out wa GG;have Y1:=ab y1;clear y1 y2 y3)
          | (go_at_call 13;refine (X2h _ (ML.out _ (aa (aa G6.out GP.out) (gx GG)))).mono ?_;rintro e wb ⟨bb,rfl,g2,x2⟩;have Y1:=ab (Y1.out.keep0 (aa (gx (ae _ _)) g2));have GG:=aa (gx GG) g2;have k1:=CX.out wb GG;have X2:=ab x2;clear x2 g2)
          | (go_at_call 15;refine (q9 ba bb _ _ 4600003 35300000 _ (Y1.out.x.keep0 (gx (ae _ _))) (X2.out.keep0 (gx (ae _ _))) (by decide)).mono ?_;rintro e wc ⟨bc,rfl,y1,y2,y3⟩;have GG:=aa (gx GG) y2;have k2:=CX.out wc GG;have M4:=ab y1;clear y1 y2 y3)
          | (go_at_call 14;refine (oD bz bc (bm P j) _ (2+j*(39900005+3)) 39900005 _ (K1.out.keep0 (gx GG)) (M4.out.x.keep0 (gx (ae _ _))) (by omega) (by omega)).mono ?_;rintro e wd ⟨rfl,r1,r2⟩;have k3:=CX.out _ (gx GG);have k4:wd.cell? ⟨gb,1,none⟩=some (.slice (some ⟨g,off,none⟩) ps.length jc)/\wd.cell? ⟨g,off+j,none⟩=some (.string T):=⟨r1.gr.cell k3.1 (by simp;exact NZ.out.1),r1.gr.cell k3.2 (by simp;exact NZ.out.2)⟩;have RP:=ab (kA (aa K2.out (gx GG)) r1 HBZ.out);have RQ2:=ab r2;clear r1 r2 k3))
        all_goals
         have RR:Hid (RV wd bz (bm P (j+1)) (2+(j+1)*(39900005+3))):=by
          show RV _ _ _ _
          rw [aQ,HPJ.out,show 2+(j+1)*(39900005+3)=2+j*(39900005+3)+39900005+3 by rw [Nat.add_mul];omega];exact .inl RQ2.out
         clear RQ2 s0;go_wp2;go_roundw
         case rel=>exact ⟨j+1,by omega,by go_num,RR.out,RP.out⟩
         case measure=>simp [intOf];omega
       ·obtain rfl:j=ps.length:=by omega
        go_wp2_with fail;refine (pJ bz _ _ wr K1.out).mono ?_;rintro e wr' ⟨rfl,rfl⟩;have hsg:sn (bm P ps.length).num=0:=by rw [HPS.out];rfl
        rw [hsg];go_wp2;go_ret;exact ⟨rfl,aa GW.out (aa G6.out (aa GX.out (aa GY.out K2.out)))⟩
     ·have hdd:(d1 != 0)=true:=by simp [hd]
      obtain ⟨fs,_⟩:=FY.out.set d1 d2;obtain ⟨w12,hw12⟩:∃ w12,w12=(wy.setCell ⟨gf,0,none⟩ (.int .i64 d1)).setCell ⟨gf,1,none⟩ (.int .i64 d2):=⟨_,rfl⟩;have G12:Hid (w.grownBy w12 none):=by
       rw [hw12];have hg:=aa GW.out (aa G6.out (aa GX.out GY.out));have hlo:w.heap.size<=gf:=Nat.le_trans GW.out.size HGFW.out;exact ai (ai hg _ _ hlo) _ _ hlo
      rw [<- hw12] at fs ⊢;clear hw12 hd;obtain ⟨f0,f1,f2,f3⟩:=fs.cells;go_wp2;go_ret;exact ⟨rfl,G12.out⟩
end Go.Proofs.YtfjnoikjhdpghaaGreatDoor
