/- Contracts that the proof leans on. -/
import Derived.Test.YtcoeancbjafooaaGreatDoorXCLa
import Derived.Test.YtcoeancbjafooaaGreatDoorXRCmpX
import Derived.Test.YtcoeancbjafooaaGreatDoorXCDb
import Derived.Test.YtcoeancbjafooaaGreatDoorXRPush
import Derived.Test.YtcoeancbjafooaaGreatDoorXNetY
import Derived.Test.YtcoeancbjafooaaGreatDoorXCRb
import Derived.Deep.RegionHeld3
namespace Go.Proofs.YtcoeancbjafooaaGreatDoor
open Go.RowKit
set_option linter.unusedVariables false
set_option linter.unusedSimpArgs false
set_option maxHeartbeats 8000000
set_option maxRecDepth 10000
theorem qr (ps:List aO) (a b:Int) (h:∀ i (h:i<ps.length),ps[i].v.size<=100000000):∀ p∈aI ps a b,p.v.size<=600000000:=by
 intro p hp;unfold aI at hp;rcases List.mem_append.1 hp with hp | hp
 ·obtain ⟨q,hq,rfl⟩:=List.mem_map.1 hp;obtain ⟨i,hi,rfl⟩:=List.mem_iff_getElem.1 hq;have:=h i hi;unfold ax;split
  ·show (1:Nat)<=_
   decide
  ·omega
 ·rw [List.mem_singleton.1 hp];show (1:Nat)<=_
  decide
theorem sC (ps:List aO) (a b:Int) (h:aY ps<=1100000) (hl:ps.length<=16):∀ n,bT n (aI ps a b)->eW (cP n (aI ps a b)) (n+(aI ps a b).length)<2300000:=by
 intro n hn;have h1:=nC n ps a b;have h2:=hn.hi;rw [kv];omega
theorem oI.ok {n:Nat} {ps:List aO} {c2:Int} {n1 n2:Nat} {V I:Nat->Rat} (h:oI (n:Int) ps 0 c2 n1 n2 V I):n1=n/\aH n ps V I:=by
 rcases h with ⟨h0,h1,_⟩ | ⟨_,_,(⟨_,h1,_,h2,_⟩ | ⟨h1,_⟩ | ⟨h1,_⟩)⟩
 ·exact absurd h1.symm h0
 ·rw [Int.toNat_natCast] at h1 h2;exact ⟨h1,h2⟩
 ·exact absurd h1 (by decide)
 ·exact absurd h1 (by decide)
def BothR (W:World) (ps:List aO) (iv:Value) (wr:World):Prop:=∃ i:Nat,i<=ps.length/\iv=.int .i64 i/\(∀ j (h:j<i) (h2:j<ps.length),ps[j].kind≠6/\ps[j].kind≠7)/\W.grownBy wr none
theorem te (nodes:Int) (po:Option Addr) (pc:Nat) (ps:List aO) (a b c d:Int) (w:World) (hb:ji w) (ht:dQ w) (hp:aT w (.slice po ps.length pc) ps) (hsz:aY ps<=1100000) (hsv:∀ i (h:i<ps.length),ps[i].v.size<=100000000) :
  Calls Tryz.prog 6 #[.agg #[.int .i64 nodes,.slice po ps.length pc],.int .i64 a,.int .i64 b,.int .i64 c,.int .i64 d] w fun e w'=>e=.returned (.bool true)/\w.grownBy w' none:=by
 have HB:=ab hb;have HT:=ab ht;have HP:=ab hp;have HSV:=ab hsv;have HSZ:=ab hsz;clear hb ht hp hsv hsz;obtain ⟨W,hW⟩:∃ W,W=w.alloc (Obj.cells #[.int .i64 nodes,.slice po ps.length pc] 24):=⟨_,rfl⟩;obtain ⟨gn,hgn⟩:∃ gn,gn=w.heap.size:=⟨_,rfl⟩;have GW:Hid (w.grownBy W none):=by rw [hW];exact ag (ae _ _) _
 have NC:Hid (∀ wx,W.grownBy wx none->wx.cell? ⟨gn,0,none⟩=some (.int .i64 nodes)/\wx.cell? ⟨gn,1,none⟩=some (.slice po ps.length pc)):=by
  intro wx hg;rw [hW] at hg;rw [hgn];exact ⟨hg.cell (by go_simp) (by simp),hg.cell (by go_simp) (by simp)⟩
 go_enter Tryz.func6,Tryz.ntmps6
 go_wp2_with fail;rw [<- hW,<- hgn];clear hW hgn;refine (lU W (HB.out.keep GW.out) (HT.out.keep0 GW.out)).mono ?_;rintro e w1 ⟨rfl,g1⟩;obtain ⟨c0,c1⟩:=NC.out w1 g1;have G1:=ab g1;clear g1;go_wp2_with fail;refine (vP nodes (.slice po ps.length pc) ps false w1 (HB.out.keep (aa GW.out G1.out)) (HP.out.keep (aa GW.out G1.out)) HSV.out).mono ?_;rintro e w2 ⟨rfl,g2⟩;have G2:=ab (aa G1.out g2);clear g2 c0 c1;obtain ⟨c0,c1⟩:=NC.out w2 G2.out;obtain ⟨f1,hf1⟩:∃ f1,f1=(aQ false nodes ps).1:=⟨_,rfl⟩;obtain ⟨f2,hf2⟩:∃ f2,f2=(aQ false nodes ps).2:=⟨_,rfl⟩;rw [<- hf1,<- hf2];have hfd:∀ (c1 c2:Int) (w:World),(Instr.field 32 (.agg #[.int .i64 c1,.int .i64 c2]) 0).run Tryz.prog w=.ok (.int .i64 c1) w:=fun _ _ _=>by kernel_rfl
 by_cases h1:f1≠0
 ·have hd:(f1 != 0)=true:=by simp [h1]
  have hd2:decide (f1=0)=false:=by simp [h1]
  clear hf1 hf2;go_wp2;go_ret;exact ⟨rfl,aa GW.out G2.out⟩
 replace h1:f1=0:=Classical.not_not.1 h1;subst h1;have HF:=ab hf1.symm;clear hf1 hf2;by_cases ha:¬ (0<=a/\a<nodes)
 ·have hbad:(decide (0<=a) && decide (a<nodes))=false:=by
   rw [Bool.and_eq_false_iff,decide_eq_false_iff_not,decide_eq_false_iff_not];omega
  clear ha;go_wp2_with fail;refine (eD a nodes gn w2 c0).mono ?_;rintro e w3 ⟨rfl,hw3⟩;obtain rfl:=hw3.symm;rw [hbad];go_wp2;go_ret;exact ⟨rfl,aa GW.out G2.out⟩
 replace ha:=Classical.not_not.1 ha;have had:(decide (0<=a) && decide (a<nodes))=true:=by rw [decide_eq_true ha.1,decide_eq_true ha.2];rfl
 have Ha:=ab ha;clear ha;go_wp2_with fail;refine (eD a nodes gn w2 c0).mono ?_;rintro e w3 ⟨rfl,hw3⟩;obtain rfl:=hw3.symm;rw [had];clear had hw3;by_cases hb:¬ (0<=b/\b<nodes)
 ·have hbad:(decide (0<=b) && decide (b<nodes))=false:=by
   rw [Bool.and_eq_false_iff,decide_eq_false_iff_not,decide_eq_false_iff_not];omega
  clear hb;go_wp2_with fail;refine (eD b nodes gn w2 c0).mono ?_;rintro e w3 ⟨rfl,hw3⟩;obtain rfl:=hw3.symm;rw [hbad];go_wp2;go_ret;exact ⟨rfl,aa GW.out G2.out⟩
 replace hb:=Classical.not_not.1 hb;have hbd:(decide (0<=b) && decide (b<nodes))=true:=by rw [decide_eq_true hb.1,decide_eq_true hb.2];rfl
 have Hb:=ab hb;clear hb;go_wp2_with fail;refine (eD b nodes gn w2 c0).mono ?_;rintro e w3 ⟨rfl,hw3⟩;obtain rfl:=hw3.symm;rw [hbd];clear hbd hw3;by_cases hc:¬ (0<=c/\c<nodes)
 ·have hbad:(decide (0<=c) && decide (c<nodes))=false:=by
   rw [Bool.and_eq_false_iff,decide_eq_false_iff_not,decide_eq_false_iff_not];omega
  clear hc;go_wp2_with fail;refine (eD c nodes gn w2 c0).mono ?_;rintro e w3 ⟨rfl,hw3⟩;obtain rfl:=hw3.symm;rw [hbad];go_wp2;go_ret;exact ⟨rfl,aa GW.out G2.out⟩
 replace hc:=Classical.not_not.1 hc;have hcd:(decide (0<=c) && decide (c<nodes))=true:=by rw [decide_eq_true hc.1,decide_eq_true hc.2];rfl
 have Hc:=ab hc;clear hc;go_wp2_with fail;refine (eD c nodes gn w2 c0).mono ?_;rintro e w3 ⟨rfl,hw3⟩;obtain rfl:=hw3.symm;rw [hcd];clear hcd hw3;by_cases hd:¬ (0<=d/\d<nodes)
 ·have hbad:(decide (0<=d) && decide (d<nodes))=false:=by
   rw [Bool.and_eq_false_iff,decide_eq_false_iff_not,decide_eq_false_iff_not];omega
  clear hd;go_wp2_with fail;refine (eD d nodes gn w2 c0).mono ?_;rintro e w3 ⟨rfl,hw3⟩;obtain rfl:=hw3.symm;rw [hbad];go_wp2;go_ret;exact ⟨rfl,aa GW.out G2.out⟩
 replace hd:=Classical.not_not.1 hd;have hdd:(decide (0<=d) && decide (d<nodes))=true:=by rw [decide_eq_true hd.1,decide_eq_true hd.2];rfl
 have Hd:=ab hd;clear hd;go_wp2_with fail;refine (eD d nodes gn w2 c0).mono ?_;rintro e w3 ⟨rfl,hw3⟩;obtain rfl:=hw3.symm;rw [hdd];clear hdd hw3;by_cases hlen:16<=ps.length
 ·have h16:decide ((16:Int)<=(ps.length:Int))=true:=decide_eq_true (by omega);go_wp2
  all_goals (try (exfalso;omega))
  go_ret;exact ⟨rfl,aa GW.out G2.out⟩
 have h16:decide ((16:Int)<=(ps.length:Int))=false:=decide_eq_false (by omega);go_wp2
 all_goals (try (exfalso;omega))
 go_loopw [59] (fun iv wr=>Hid (BothR W ps iv wr)) (fun iv _=>ps.length-(intOf iv).toNat)
 case atStart=>exact ⟨0,by omega,rfl,fun j h=>absurd h (Nat.not_lt_zero j),G2.out⟩
 case round =>
  obtain ⟨i,hi,rfl,hK,hgr⟩:=hrel.out;have HK:=ab hK;have HGR:=ab hgr;clear hK hgr hrel c0 c1;by_cases hlt:i<ps.length
  ·obtain ⟨po',pc',e0,_,_,hps⟩:=HP.out;obtain ⟨b0,off,e1,hb,c0,c1,c2,c3,c4,c5,c6⟩:=hps i hlt;obtain ⟨rfl,rfl⟩:po=po'/\pc=pc':=by injection e0 with e2 e3 e4;exact ⟨e2,e4⟩
   subst e1;have hgg:=(aa GW.out HGR.out);have q0:=hgg.cell c0 (by simp);have q1:=hgg.cell c1 (by simp);have q2:=hgg.cell c2 (by simp);have q3:=hgg.cell c3 (by simp);have q4:=hgg.cell c4 (by simp);have q5:=hgg.cell c5 (by simp);have HI:Hid (∀ k,ps[i].kind=k->k≠6->k≠7->∀ j (h:j<i+1) (h2:j<ps.length),ps[j].kind≠6/\ps[j].kind≠7):=by
    intro k hk h6 h7 j hj hj2;by_cases e:j=i
    ·subst e;rw [hk];exact ⟨h6,h7⟩
    ·exact HK.out j (by omega) hj2
   obtain ⟨k,hk⟩:∃ k,k=ps[i].kind:=⟨_,rfl⟩;rw [<- hk] at q0;have HKK:=ab hk.symm;clear c0 c1 c2 c3 c4 c5 c6 hk hps e0 hgg;by_cases h6:k=6
   ·have hd6:(k==6)=true:=by simp [h6]
    go_wp2;go_ret;exact ⟨rfl,aa GW.out (ag HGR.out _)⟩
   have hd6:(k==6)=false:=by simp [h6]
   by_cases h7:k=7
   ·have hd7:(k==7)=true:=by simp [h7]
    go_wp2;go_ret;exact ⟨rfl,aa GW.out (ag HGR.out _)⟩
   have hd7:(k==7)=false:=by simp [h7]
   go_wp2;go_roundw
   case rel=>exact ⟨i+1,by omega,by go_num,HI.out k HKK.out h6 h7,ag HGR.out _⟩
   case measure=>simp [intOf];omega
  ·obtain rfl:i=ps.length:=by omega
   obtain ⟨c0,c1⟩:=NC.out wr HGR.out;obtain ⟨hRN,hnn,hle,hfine⟩:=gU HF.out;obtain ⟨n,hn⟩:∃ n,n=nodes.toNat:=⟨_,rfl⟩;rw [<- hn] at hRN hnn;subst hnn;have HRN:=ab hRN;have HFINE:=ab hfine;clear hRN hfine hn;obtain ⟨an,rfl⟩:∃ an:Nat,a=(an:Int):=⟨a.toNat,by have:=Ha.out.1;omega⟩;obtain ⟨bn,rfl⟩:∃ bn:Nat,b=(bn:Int):=⟨b.toNat,by have:=Hb.out.1;omega⟩;obtain ⟨cn,rfl⟩:∃ cn:Nat,c=(cn:Int):=⟨c.toNat,by have:=Hc.out.1;omega⟩;obtain ⟨dn,rfl⟩:∃ dn:Nat,d=(dn:Int):=⟨d.toNat,by have:=Hd.out.1;omega⟩;go_wp2_with fail;refine (qw n po pc ps an bn wr (HP.out.keep (aa GW.out HGR.out)) (by omega)).mono ?_;rintro e px ⟨vx,rfl,ox,gx⟩;obtain ⟨vox,vcx,rfl,_⟩:=ox.shape;have PPx:=ab (ox.parts (qr ps an bn HSV.out));have GPx:=ab (aa HGR.out gx);have GQx:=ab gx;clear ox gx c0 c1;go_wp2_with fail;refine (fD (n:Int) vox vcx (aI ps an bn) 2300000 px (HB.out.keep (aa GW.out GPx.out)) (HT.out.keep0 (aa GW.out GPx.out)) PPx.out (sC ps an bn HSZ.out hle) (by decide) (by decide)).mono ?_;rintro e sx ⟨fx,ffx,nx,mx,Vx,Ix,vvx,ivx,rfl,r1,r2,r3,r4,r5,r6⟩;obtain ⟨aox,acx,rfl⟩:=r1.shape;obtain ⟨box,bcx,rfl⟩:=r2.shape;rw [aJ] at r1 r2 ⊢;rw [aJ];have R1x:=ab r1;have R3x:=ab r3;have R5x:=ab r5;have GSx:=ab (aa GPx.out r4);have GTx:=ab r4;clear r1 r2 r3 r4 r5 r6;go_upto_region 13 with fail;obtain ⟨bkx,hhx⟩:∃ bkx,bkx=sx.heap.size:=⟨_,rfl⟩;obtain ⟨bfx,hjx⟩:∃ bfx,bfx=sx.heap.size+1:=⟨_,rfl⟩;obtain ⟨wa,hwi⟩:∃ wa,wa=(sx.alloc (Obj.cells #[.slice aox nx acx,.slice box mx bcx] 29)).alloc (Obj.cells #[.int .i64 fx,.int .i64 ffx] 32):=⟨_,rfl⟩
   have GKx:Hid (sx.grownBy wa none):=by rw [hwi];exact ag (ag (ae _ _) _) _
   have Cx:Hid (∀ wx,wa.grownBy wx none->wx.cell? ⟨bkx,0,none⟩=some (.slice aox nx acx)/\wx.cell? ⟨bkx,1,none⟩=some (.slice box mx bcx)/\wx.cell? ⟨bfx,0,none⟩=some (.int .i64 fx)/\wx.cell? ⟨bfx,1,none⟩=some (.int .i64 ffx)):=by
    intro wx hg;rw [hwi] at hg;rw [hhx,hjx];exact ⟨hg.cell (by go_simp) (by simp),hg.cell (by go_simp) (by simp),hg.cell (by go_simp) (by simp),hg.cell (by go_simp) (by simp)⟩
   have GAx:=ab (aa GSx.out GKx.out);rw [<- hwi];try rw [<- hjx]
   try rw [<- hhx]
   clear hwi hhx hjx;obtain ⟨c0,c1⟩:=NC.out wa GAx.out;go_wp2_with fail;refine (qw n po pc ps cn dn wa (HP.out.keep (aa GW.out GAx.out)) (by omega)).mono ?_;rintro e py ⟨vy,rfl,oy,gy⟩;obtain ⟨voy,vcy,rfl,_⟩:=oy.shape;have PPy:=ab (oy.parts (qr ps cn dn HSV.out));have GPy:=ab (aa GAx.out gy);have GQy:=ab gy;clear oy gy c0 c1;go_wp2_with fail;refine (fD (n:Int) voy vcy (aI ps cn dn) 2300000 py (HB.out.keep (aa GW.out GPy.out)) (HT.out.keep0 (aa GW.out GPy.out)) PPy.out (sC ps cn dn HSZ.out hle) (by decide) (by decide)).mono ?_;rintro e sy ⟨fy,ffy,ny,my,Vy,Iy,vvy,ivy,rfl,r1,r2,r3,r4,r5,r6⟩;obtain ⟨aoy,acy,rfl⟩:=r1.shape;obtain ⟨boy,bcy,rfl⟩:=r2.shape;rw [aJ] at r1 r2 ⊢;rw [aJ];have R1y:=ab r1;have R3y:=ab r3;have R5y:=ab r5;have GSy:=ab (aa GPy.out r4);have GTy:=ab r4;clear r1 r2 r3 r4 r5 r6;go_upto_region 14 with fail;obtain ⟨bky,hhy⟩:∃ bky,bky=sy.heap.size:=⟨_,rfl⟩;obtain ⟨bfy,hjy⟩:∃ bfy,bfy=sy.heap.size+1:=⟨_,rfl⟩;obtain ⟨wb,hwi⟩:∃ wb,wb=(sy.alloc (Obj.cells #[.slice aoy ny acy,.slice boy my bcy] 29)).alloc (Obj.cells #[.int .i64 fy,.int .i64 ffy] 32):=⟨_,rfl⟩;have GKy:Hid (sy.grownBy wb none):=by rw [hwi];exact ag (ag (ae _ _) _) _
   have Cy:Hid (∀ wx,wb.grownBy wx none->wx.cell? ⟨bky,0,none⟩=some (.slice aoy ny acy)/\wx.cell? ⟨bky,1,none⟩=some (.slice boy my bcy)/\wx.cell? ⟨bfy,0,none⟩=some (.int .i64 fy)/\wx.cell? ⟨bfy,1,none⟩=some (.int .i64 ffy)):=by
    intro wx hg;rw [hwi] at hg;rw [hhy,hjy];exact ⟨hg.cell (by go_simp) (by simp),hg.cell (by go_simp) (by simp),hg.cell (by go_simp) (by simp),hg.cell (by go_simp) (by simp)⟩
   have GAy:=ab (aa GSy.out GKy.out);rw [<- hwi];try rw [<- hjy]
   try rw [<- hhy]
   clear hwi hhy hjy;have GXY:Hid (wa.grownBy wb none):=aa (aa GQy.out GTy.out) GKy.out;obtain ⟨x0,x1,x2,x3⟩:=Cx.out wb GXY.out;obtain ⟨y0,y1,y2,y3⟩:=Cy.out wb (ae _ _);obtain ⟨c0,c1⟩:=NC.out wb GAy.out;by_cases hx:fx≠0
   ·have hxd:(fx != 0)=true:=by simp [hx]
    go_wp2;go_ret;exact ⟨rfl,aa GW.out GAy.out⟩
   replace hx:fx=0:=Classical.not_not.1 hx;subst hx;by_cases hy:fy≠0
   ·have hyd:(fy != 0)=true:=by simp [hy]
    go_wp2;go_ret;exact ⟨rfl,aa GW.out GAy.out⟩
   replace hy:fy=0:=Classical.not_not.1 hy;subst hy;obtain ⟨ex,SX⟩:=R3x.out.ok;obtain ⟨ey,SY⟩:=R3y.out.ok;obtain rfl:n=nx:=ex.symm;obtain rfl:n=ny:=ey.symm;have han:an<n:=by have:=Ha.out.2;omega
   have hbn:bn<n:=by have:=Hb.out.2;omega
   have hcn:cn<n:=by have:=Hc.out.2;omega
   have hdn:dn<n:=by have:=Hd.out.2;omega
   have hkk:∀ p∈ps,1<=p.kind/\p.kind<=5:=by
    intro p hp;have h1:=HFINE.out p hp;obtain ⟨i,hi,rfl⟩:=List.mem_iff_getElem.1 hp;have h2:=HK.out i hi hi;have h3:=h1.k1;have h4:=h1.k7;omega
   have hbw:=zI (jE HRN.out (by omega) Ha.out Hb.out) (jE HRN.out (by omega) Hc.out Hd.out) hkk SX SY;rw [Int.toNat_natCast,Int.toNat_natCast,Int.toNat_natCast,Int.toNat_natCast] at hbw;have hz:(tB (Vx cn-Vx dn) (Vy an-Vy bn)==0)=true:=by rw [beq_iff_eq,ss];exact hbw
   obtain ⟨gx,ox,rfl,tx⟩:=jg R1x.out HRN.out.lo;obtain ⟨gy,oy,rfl,ty⟩:=jg R1y.out HRN.out.lo;obtain ⟨ml,hml⟩:=HB.out.2.1;have FX1:=ab (R5x.out cn hcn);have FX2:=ab (R5x.out dn hdn);have FY1:=ab (R5y.out an han);have FY2:=ab (R5y.out bn hbn);have TX1:=ab ((aa GKx.out GXY.out).cell (tx cn hcn) (by simp));have TX2:=ab ((aa GKx.out GXY.out).cell (tx dn hdn) (by simp));have TY1:=ab (GKy.out.cell (ty an han) (by simp));have TY2:=ab (GKy.out.cell (ty bn hbn) (by simp));have ML:=ab ((aa GW.out GAy.out).cell hml (by simp));have hnn:((n:Int)==(n:Int))=true:=by simp
   have GEND:=ab (aa GW.out GAy.out);have CC:Hid (∀ wx,wb.grownBy wx none->wx.cell? ⟨bkx,0,none⟩=some (.slice (some ⟨gx,ox,none⟩) n acx)/\wx.cell? ⟨bkx,1,none⟩=some (.slice box mx bcx)/\wx.cell? ⟨bky,0,none⟩=some (.slice (some ⟨gy,oy,none⟩) n acy)/\wx.cell? ⟨bky,1,none⟩=some (.slice boy my bcy)/\wx.cell? ⟨gn,0,none⟩=some (.int .i64 (n:Int))):=by
    intro wx hg;exact ⟨hg.cell x0 (by simp),hg.cell x1 (by simp),hg.cell y0 (by simp),hg.cell y1 (by simp),hg.cell c0 (by simp)⟩
   clear hml tx ty hbw SX SY hkk R3x R3y R5x R5y R1x R1y HFINE HK HSV HP HB HT ex ey PPx PPy NC Cx Cy;go_upto_region 17 with fail;go_region_held3 (fun w'=>w'.cell? ⟨bkx,0,none⟩=some (.slice (some ⟨gx,ox,none⟩) n acx)/\w'.cell? ⟨bkx,1,none⟩=some (.slice box mx bcx)/\w'.cell? ⟨bky,0,none⟩=some (.slice (some ⟨gy,oy,none⟩) n acy)/\w'.cell? ⟨bky,1,none⟩=some (.slice boy my bcy)/\w'.cell? ⟨gn,0,none⟩=some (.int .i64 (n:Int))) (go_keep)
    (first
     | (go_at_call_of 31 (Value.slice (some ⟨gx,ox,none⟩) n acx);refine (pH gx ox n acx box mx bcx cn dn (Vx cn) (Vx dn) 2300000 ml _ ((aj _).cell ML.out (by simp)) hcn hdn ((aj _).cell TX1.out (by simp)) ((aj _).cell TX2.out (by simp)) (by decide) FX1.out FX2.out (by decide)).mono ?_;rintro e w7 ⟨b7,rfl,q7,g7,l7⟩;have G7:wb.grownBy w7 none:=aa (aj _) g7;obtain ⟨z0,z1,z2,z3,z4⟩:=CC.out w7 G7;have Q7:=ab q7;clear q7 l7)
     | (go_at_call_of 31 (Value.slice (some ⟨gy,oy,none⟩) n acy);refine (pH gy oy n acy boy my bcy an bn (Vy an) (Vy bn) 2300000 ml _ (G7.cell ML.out (by simp)) han hbn (G7.cell TY1.out (by simp)) (G7.cell TY2.out (by simp)) (by decide) FY1.out FY2.out (by decide)).mono ?_;rintro e w8 ⟨b8,rfl,q8,g8,l8⟩;have G8:wb.grownBy w8 none:=aa G7 g8;obtain ⟨z5,z6,z7,z8,z9⟩:=CC.out w8 G8;have Q8:=ab q8;have Q7':=ab (Q7.out.keep0 g8);clear q8 l8)
     | (go_at_call 26;refine (qx b7 b8 _ _ _ _ _ Q7'.out.x Q8.out.x (by decide)).mono ?_;rintro e w9 ⟨rfl,g9⟩;have G9:=aa G8 g9;obtain ⟨t5,t6,t7,t8,t9⟩:=CC.out w9 G9))
   all_goals go_wp2
   all_goals go_ret
   all_goals exact ⟨rfl,aa GEND.out G9⟩
end Go.Proofs.YtcoeancbjafooaaGreatDoor
