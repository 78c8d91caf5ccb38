/- Contracts that the proof leans on. -/
import Derived.Test.YthblidglcppakaaGreatDoorXCBc
namespace Go.Proofs.YthblidglcppakaaGreatDoor
open Go.RowKit
set_option linter.unusedVariables false
set_option linter.unusedSimpArgs false
set_option maxHeartbeats 8000000
set_option maxRecDepth 10000
theorem Cf (b:Nat) (x0 x:Int) (hxx:-x0=x) (y L M G:Nat) (hG:G=Nat.gcd x.natAbs y) (w:World) (hA0:aB w b 0 x0 L) (hB0:aB w b 2 (-(y:Int)) M) (hx:x≠0) (hy:0<y) (hL:L<=4000000000000) (hM:M<=4000000000000) :
  Calls Tryz.prog 68 #[.pointer (some ⟨b,0,none⟩)] w fun e w'=>e=.returned (.pointer (some ⟨b,0,none⟩))/\bB w w' b/\aB w' b 0 (x / (G:Nat)) (L+2)/\aB w' b 2 (y / G:Nat) (M+2):=by
 have HXX:=ab hxx;have HG:=ab hG;clear hxx hG;have HA0:=ab hA0;have HB0:=ab hB0;obtain ⟨na0,va0,a01,_⟩:=hA0;obtain ⟨nb0,vb0,b01,b02,b03,b04⟩:=hB0;have nbt:nb0=true:=by rw [b03];exact decide_eq_true (by omega)
 subst nbt;rw [Int.natAbs_neg,Int.natAbs_natCast] at b02;obtain ⟨bo0,lb0,cb0,rfl,yy1,_,_,_,_,_⟩:=aL b02;have hlb0:((lb0:Int)==0)=false:=beq_eq_false_iff_ne.2 (by omega);have d00:=b01.c0;have d01:=b01.c1;have B01:=ab b01;have A01:=ab a01;have B04:=ab b04;clear a01 b01 b02 b03 b04 yy1;go_enter Tryz.func68,Tryz.ntmps68
 go_wp2;go_region_with (go_at_call 70;refine (pz b 0 b 0 na0 va0 x0 L _ (A01.out.keep0 (aF _)) (HA0.out.keep0 (aF _)) (by omega)).mono ?_;rintro e w1 ⟨rfl,c1,c2,c3⟩)
 have C1:=ab ((fY.of_gr (aF _) b 0 A01.out.lt).trans c1);have C2:=ab c2;have HB1:=ab (HB0.out.keep C1.out (.inr (.inr (by omega))) (fun v hv e=>by
  rw [B01.out.c1] at hv;rw [<- Option.some.inj hv] at e;exact B04.out e))
 have B11:=ab (B01.out.keep C1.out (.inr (.inr (by omega))));clear c1 c2 c3 d00 d01;go_wp2;go_region_with (go_at_call 70;refine (pz b 2 b 2 true (.slice bo0 lb0 cb0) (-(y:Int)) M _ (B11.out.keep0 (aF _)) (HB1.out.keep0 (aF _)) (by omega)).mono ?_;rintro e w2 ⟨rfl,c1,c2,c3⟩)
 have C3:=ab ((fY.of_gr (aF _) b 2 B11.out.lt).trans c1);rw [Int.neg_neg] at c2;have hB:aB w2 b 2 (y:Int) M:=c2;have hA0':aB w2 b 0 (-x0) L:=C2.out.keep C3.out (.inr (.inl (by omega))) (fun v hv e=>by
  obtain ⟨_,v3,q1,_,_,q4⟩:=C2.out;rw [q1.c1] at hv;rw [<- Option.some.inj hv] at e;exact q4 e)
 have hA:aB w2 b 0 x L:=by rw [<- HXX.out];exact hA0'
 have R2:Hid (bB w w2 b):=(bB.of_put C1.out).trans (bB.of_put C3.out);clear c1 c2 c3 C1 C2 C3 HB1 B11 HA0 HB0 B01 A01 B04 HXX hA0';have HA:=ab hA;have HB:=ab hB;obtain ⟨na,va,a1,a2,a3,a4⟩:=hA;obtain ⟨nb,vb,b1,b2,b3,b4⟩:=hB;rw [Int.natAbs_natCast] at b2;have nbf:nb=false:=by rw [b3];simp
 subst nbf;have c0:=a1.c0;have c1:=a1.c1;have d0:=b1.c0;have d1:=b1.c1;obtain ⟨ao,la,ca,rfl,z1,z2,z3,z4,z5,z6⟩:=aL a2;obtain ⟨bo,lb,cb,rfl,y1,y2,y3,y4,y5,y6⟩:=aL b2;have hla:((la:Int)==0)=false:=beq_eq_false_iff_ne.2 (by omega);have hlb:((lb:Int)==0)=false:=beq_eq_false_iff_ne.2 (by omega);have A1:=ab a1;have A2:=ab a2;have A3:=ab a3;have A4:=ab a4;have B1:=ab b1;have B2:=ab b2;have B4:=ab b4;clear a1 a2 a3 a4 b1 b2 b3 b4 z1 z5 z6 y1;by_cases hy1:y=1
 ·subst hy1;have hl1:((lb:Int)==1)=true:=beq_iff_eq.2 (by have:=y6 rfl;omega);obtain ⟨vbb,voff,rfl,hvc⟩:=y5 (y6 rfl);have hlb1:=y6 rfl;clear y5 y6;skip;go_wp2;go_ret;refine ⟨rfl,R2.out.trans (bB.of_gr (ae _ _)),?_,?_⟩
  ·rw [show G=1 from HG.out.trans (Nat.gcd_one_right _)];simpa using HA.out.mono (by omega)
  ·rw [show G=1 from HG.out.trans (Nat.gcd_one_right _)];simpa using HB.out.mono (by omega)
 ·have hpk:Hid (0<x.natAbs):=by show 0<x.natAbs;omega
  have tst:((lb:Int)==1)=false∨(((lb:Int)==1)=true/\∃ vbb voff,bo=some ⟨vbb,voff,none⟩/\w2.cell? ⟨vbb,voff,none⟩=some (.int .u32 (y:Nat))/\(((y:Nat):Int)==1)=false/\1<=lb):=by
   by_cases h:lb=1
   ·obtain ⟨vbb,voff,e1,e2⟩:=y5 h;exact .inr ⟨beq_iff_eq.2 (by omega),vbb,voff,e1,e2,beq_eq_false_iff_ne.2 (by omega),by omega⟩
   ·exact .inl (beq_eq_false_iff_ne.2 (by omega))
  clear y5 y6;rcases tst with hl1 | ⟨hl1,vbb,voff,rfl,hvc,hy1',hlb1⟩
  ·skip;skip;go_wp2;go_region_held3 (fun w'=>w'.cell? ⟨b,1,none⟩=some (.slice ao la ca)/\w'.cell? ⟨b,3,none⟩=some (.slice bo lb cb)) (go_keep)
    (first | (go_at_call 93;refine (jf _ _ _ _ L M _ (A2.out.keep0 (aF _)) (B2.out.keep0 (aF _)) hpk.out (by omega) (by omega)).mono ?_;rintro e w1n ⟨g,rfl,k1,k2⟩;have q1:=(A1.out.keep0 (aa (aF _) k2)).c1;have q3:=(B1.out.keep0 (aa (aF _) k2)).c1))
   have g2:=aa (aF _) k2;rw [<- HG.out] at k1;have hG0:0<G:=by rw [HG.out];exact Nat.gcd_pos_of_pos_right _ hy
   obtain ⟨go,lg,cg,rfl,m1,m2,m3,m4,m5,m6⟩:=aL k1;have e1:=A1.out.keep0 g2;have e2:=B1.out.keep0 g2;have f1:=e1.f1;have f3:=e2.f1;have E1:=ab e1;have E2:=ab e2;have K1:=ab k1;have G2:=ab g2;have N1:=ab (A2.out.keep0 g2);have N2:=ab (B2.out.keep0 g2);clear k1 k2 g2 e1 e2 c0 c1 d0 d1;by_cases hG1:G=1
   ·have hlg:=m6 hG1;have hl2:((lg:Int)==1)=true:=beq_iff_eq.2 (by omega);obtain ⟨gb,goff,rfl,hgc⟩:=m5 hlg;have hgv:(((G:Nat):Int)==1)=true:=beq_iff_eq.2 (by omega);have HG1:=ab hG1;have hlg1:1<=lg:=by omega
    clear m1 m5 m6 hlg hG1;go_wp2;go_ret;refine ⟨rfl,R2.out.trans (bB.of_gr G2.out),?_,?_⟩
    ·rw [HG1.out];simpa using (HA.out.keep0 G2.out).mono (by omega)
    ·rw [HG1.out];simpa using (HB.out.keep0 G2.out).mono (by omega)
   ·have tst2:((lg:Int)==1)=false∨(((lg:Int)==1)=true/\∃ gb goff,go=some ⟨gb,goff,none⟩/\w1n.cell? ⟨gb,goff,none⟩=some (.int .u32 (G:Nat))/\(((G:Nat):Int)==1)=false/\1<=lg):=by
     by_cases h:lg=1
     ·obtain ⟨gb,goff,e1,e2⟩:=m5 h;exact .inr ⟨beq_iff_eq.2 (by omega),gb,goff,e1,e2,beq_eq_false_iff_ne.2 (by omega),by omega⟩
     ·exact .inl (beq_eq_false_iff_ne.2 (by omega))
    clear m1 m5 m6;rcases tst2 with hl2 | ⟨hl2,gb,goff,rfl,hgc,hgv,hlg1⟩
    all_goals
     go_wp2_with fail;refine (fK _ _ _ _ L (max L M+2) _ N1.out K1.out hG0 (by omega) (by omega)).mono ?_;rintro e w2n ⟨p,r1,rfl,p1,p2,p3,p4,p5⟩;obtain ⟨po,lp,cp,rfl,_,_,_,_,_,_⟩:=aL p1;have u1:=E1.out.keep0 p3;have u2:=E2.out.keep0 p3;have s1:=u1.c1;have s2:=u2.c1;have s3:=u1.f1;have s4:=u2.f1;have P1:=ab p1;have P3:=ab p3;have P4:=ab p4;clear p1 p2 p3 p4 p5 q1 q3 f1 f3;go_wp2_with fail;refine (fK _ _ _ _ M (max L M+2) _ (N2.out.keep0 P3.out) (K1.out.keep0 P3.out) hG0 (by omega) (by omega)).mono ?_;rintro e w3n ⟨q,r2,rfl,p1,p2,p3,p4,p5⟩;obtain ⟨qo,lq,cq,rfl,_,_,_,_,_,_⟩:=aL p1;have t1:=u1.keep0 p3;have t2:=u2.keep0 p3;have v1:=t1.c1;have v2:=t2.c1;have v3:=t1.f1;have v4:=t2.f1;have Q1:=ab p1;have Q3:=ab p3;have Q4:=ab p4;have T1:=ab t1;have T2:=ab t2;clear p1 p2 p3 p4 p5 s1 s2 s3 s4 u1 u2 t1 t2;go_wp2;go_ret;have NE:=ma b x y G L M w2 w1n w2n w3n na (.slice po lp cp) (.slice qo lq cq) HG.out hx hy A3.out G2.out P3.out Q3.out T1.out T2.out P1.out Q1.out P4.out Q4.out (A1.out.lt);exact ⟨rfl,R2.out.trans NE.1,NE.2⟩
  ·skip;skip;go_wp2;go_region_held3 (fun w'=>w'.cell? ⟨b,1,none⟩=some (.slice ao la ca)/\w'.cell? ⟨b,3,none⟩=some (.slice (some ⟨vbb,voff,none⟩) lb cb)) (go_keep)
    (first | (go_at_call 93;refine (jf _ _ _ _ L M _ (A2.out.keep0 (aF _)) (B2.out.keep0 (aF _)) hpk.out (by omega) (by omega)).mono ?_;rintro e w1n ⟨g,rfl,k1,k2⟩;have q1:=(A1.out.keep0 (aa (aF _) k2)).c1;have q3:=(B1.out.keep0 (aa (aF _) k2)).c1))
   have g2:=aa (aF _) k2;rw [<- HG.out] at k1;have hG0:0<G:=by rw [HG.out];exact Nat.gcd_pos_of_pos_right _ hy
   obtain ⟨go,lg,cg,rfl,m1,m2,m3,m4,m5,m6⟩:=aL k1;have e1:=A1.out.keep0 g2;have e2:=B1.out.keep0 g2;have f1:=e1.f1;have f3:=e2.f1;have E1:=ab e1;have E2:=ab e2;have K1:=ab k1;have G2:=ab g2;have N1:=ab (A2.out.keep0 g2);have N2:=ab (B2.out.keep0 g2);clear k1 k2 g2 e1 e2 c0 c1 d0 d1;by_cases hG1:G=1
   ·have hlg:=m6 hG1;have hl2:((lg:Int)==1)=true:=beq_iff_eq.2 (by omega);obtain ⟨gb,goff,rfl,hgc⟩:=m5 hlg;have hgv:(((G:Nat):Int)==1)=true:=beq_iff_eq.2 (by omega);have HG1:=ab hG1;have hlg1:1<=lg:=by omega
    clear m1 m5 m6 hlg hG1;go_wp2;go_ret;refine ⟨rfl,R2.out.trans (bB.of_gr G2.out),?_,?_⟩
    ·rw [HG1.out];simpa using (HA.out.keep0 G2.out).mono (by omega)
    ·rw [HG1.out];simpa using (HB.out.keep0 G2.out).mono (by omega)
   ·have tst2:((lg:Int)==1)=false∨(((lg:Int)==1)=true/\∃ gb goff,go=some ⟨gb,goff,none⟩/\w1n.cell? ⟨gb,goff,none⟩=some (.int .u32 (G:Nat))/\(((G:Nat):Int)==1)=false/\1<=lg):=by
     by_cases h:lg=1
     ·obtain ⟨gb,goff,e1,e2⟩:=m5 h;exact .inr ⟨beq_iff_eq.2 (by omega),gb,goff,e1,e2,beq_eq_false_iff_ne.2 (by omega),by omega⟩
     ·exact .inl (beq_eq_false_iff_ne.2 (by omega))
    clear m1 m5 m6;rcases tst2 with hl2 | ⟨hl2,gb,goff,rfl,hgc,hgv,hlg1⟩
    all_goals
     go_wp2_with fail;refine (fK _ _ _ _ L (max L M+2) _ N1.out K1.out hG0 (by omega) (by omega)).mono ?_;rintro e w2n ⟨p,r1,rfl,p1,p2,p3,p4,p5⟩;obtain ⟨po,lp,cp,rfl,_,_,_,_,_,_⟩:=aL p1;have u1:=E1.out.keep0 p3;have u2:=E2.out.keep0 p3;have s1:=u1.c1;have s2:=u2.c1;have s3:=u1.f1;have s4:=u2.f1;have P1:=ab p1;have P3:=ab p3;have P4:=ab p4;clear p1 p2 p3 p4 p5 q1 q3 f1 f3;go_wp2_with fail;refine (fK _ _ _ _ M (max L M+2) _ (N2.out.keep0 P3.out) (K1.out.keep0 P3.out) hG0 (by omega) (by omega)).mono ?_;rintro e w3n ⟨q,r2,rfl,p1,p2,p3,p4,p5⟩;obtain ⟨qo,lq,cq,rfl,_,_,_,_,_,_⟩:=aL p1;have t1:=u1.keep0 p3;have t2:=u2.keep0 p3;have v1:=t1.c1;have v2:=t2.c1;have v3:=t1.f1;have v4:=t2.f1;have Q1:=ab p1;have Q3:=ab p3;have Q4:=ab p4;have T1:=ab t1;have T2:=ab t2;clear p1 p2 p3 p4 p5 s1 s2 s3 s4 u1 u2 t1 t2;go_wp2;go_ret;have NE:=ma b x y G L M w2 w1n w2n w3n na (.slice po lp cp) (.slice qo lq cq) HG.out hx hy A3.out G2.out P3.out Q3.out T1.out T2.out P1.out Q1.out P4.out Q4.out (A1.out.lt);exact ⟨rfl,R2.out.trans NE.1,NE.2⟩
theorem wZ (b:Nat) (y L M:Nat) (w:World) (hA0:aB w b 0 0 L) (hB0:aB w b 2 (-(y:Int)) M) (hy:0<y) (hL:L<=4000000000000) (hM:M<=4000000000000) :
  Calls Tryz.prog 68 #[.pointer (some ⟨b,0,none⟩)] w fun e w'=>e=.returned (.pointer (some ⟨b,0,none⟩))/\bB w w' b/\aB w' b 0 0 L/\aB w' b 2 1 2:=by
 have HA0:=ab hA0;have HB0:=ab hB0;obtain ⟨na0,va0,a01,_⟩:=hA0;obtain ⟨nb0,vb0,b01,b02,b03,b04⟩:=hB0;have nbt:nb0=true:=by rw [b03];exact decide_eq_true (by omega)
 subst nbt;rw [Int.natAbs_neg,Int.natAbs_natCast] at b02;obtain ⟨bo0,lb0,cb0,rfl,yy1,_,_,_,_,_⟩:=aL b02;have hlb0:((lb0:Int)==0)=false:=beq_eq_false_iff_ne.2 (by omega);have d00:=b01.c0;have d01:=b01.c1;have B01:=ab b01;have A01:=ab a01;have B04:=ab b04;clear a01 b01 b02 b03 b04 yy1;go_enter Tryz.func68,Tryz.ntmps68
 go_wp2;go_region_with (go_at_call 70;refine (pz b 0 b 0 na0 va0 0 L _ (A01.out.keep0 (aF _)) (HA0.out.keep0 (aF _)) (by omega)).mono ?_;rintro e w1 ⟨rfl,c1,c2,c3⟩)
 have C1:=ab ((fY.of_gr (aF _) b 0 A01.out.lt).trans c1);have C2:=ab c2;have HB1:=ab (HB0.out.keep C1.out (.inr (.inr (by omega))) (fun v hv e=>by
  rw [B01.out.c1] at hv;rw [<- Option.some.inj hv] at e;exact B04.out e))
 have B11:=ab (B01.out.keep C1.out (.inr (.inr (by omega))));clear c1 c2 c3 d00 d01;go_wp2;go_region_with (go_at_call 70;refine (pz b 2 b 2 true (.slice bo0 lb0 cb0) (-(y:Int)) M _ (B11.out.keep0 (aF _)) (HB1.out.keep0 (aF _)) (by omega)).mono ?_;rintro e w2 ⟨rfl,c1,c2,c3⟩)
 have C3:=ab ((fY.of_gr (aF _) b 2 B11.out.lt).trans c1);rw [Int.neg_neg] at c2;have hB:aB w2 b 2 (y:Int) M:=c2;have hA0':aB w2 b 0 (-0) L:=C2.out.keep C3.out (.inr (.inl (by omega))) (fun v hv e=>by
  obtain ⟨_,v3,q1,_,_,q4⟩:=C2.out;rw [q1.c1] at hv;rw [<- Option.some.inj hv] at e;exact q4 e)
 have hA:aB w2 b 0 0 L :=  hA0';have R2:Hid (bB w w2 b):=(bB.of_put C1.out).trans (bB.of_put C3.out);clear c1 c2 c3 C1 C2 C3 HB1 B11 HA0 HB0 B01 A01 B04 hA0';have HA:=ab hA;obtain ⟨na,va,a1,a2,a3,a4⟩:=hA;obtain ⟨nb,vb,b1,b2,b3,b4⟩:=hB;rw [Int.natAbs_natCast] at b2;have nbf:nb=false:=by rw [b3];simp
 subst nbf;have c0:=a1.c0;have c1:=a1.c1;have d0:=b1.c0;have d1:=b1.c1;obtain ⟨ao,la,ca,rfl,z1,z2,z3,z4,z5,z6⟩:=aL a2;obtain ⟨bo,lb,cb,rfl,y1,y2,y3,y4,y5,y6⟩:=aL b2;have hla:((la:Int)==0)=true:=beq_iff_eq.2 (by have:=z1.2 rfl;omega);have hlb:((lb:Int)==0)=false:=beq_eq_false_iff_ne.2 (by omega);have A1:=ab a1;have A2:=ab a2;have A4:=ab a4;have A3:=ab a3;have B1:=ab b1;clear a1 a2 a3 a4 b1 b2 b3 b4 z1 z5 z6 y1 y5 y6;skip;go_wp2_with fail;refine (kh b 2 false (.slice bo lb cb) 1 _ B1.out (by omega) (by omega)).mono ?_;rintro e w1n ⟨rfl,k1,k2,_⟩;have K1:=ab k1;have K2:=ab k2;clear k1 k2;go_wp2;go_ret;refine ⟨rfl,R2.out.trans (bB.of_put K1.out),?_,K2.out⟩;exact ⟨na,.slice ao la ca,A1.out.keep K1.out (.inr (.inl (by omega))),A2.out.keep K1.out.gr (fun k e h=>by cases e;exact A4.out h),A3.out,A4.out⟩
def vU (x z:Int):Int:=if z<0 then -x else x
theorem Ce (b:Nat) (x z:Int) (L:Nat) (w:World) (hA:aB w b 0 x L) (hB:aB w b 2 z L) (hz:z≠0) (hL:L<=4000000000000) :
  Calls Tryz.prog 68 #[.pointer (some ⟨b,0,none⟩)] w fun e w'=>e=.returned (.pointer (some ⟨b,0,none⟩))/\bB w w' b/\bQ w' b (fp (vU x z) z.natAbs) (fe (vU x z) z.natAbs) (L+2):=by
 by_cases hn:z<0
 ·obtain ⟨y,rfl⟩:∃ y:Nat,z = -(y:Int):=⟨z.natAbs,by omega⟩;have e1:(-(y:Int)).natAbs=y:=by omega
  have e2:vU x (-(y:Int)) = -x:=if_pos hn;rw [e1,e2];have hy:0<y:=by omega
  have hl:=ya (-x) y hy;by_cases hx:x=0
  ·subst hx;refine (wZ b y L L w hA hB hy hL hL).mono ?_;rintro e w' ⟨rfl,k1,k2,k3⟩;have f1:fp (-0) y=0:=by simp [fp]
   have f2:fe (-0) y=1:=by simp [fe];exact Nat.div_self hy
   rw [f1,f2];exact ⟨rfl,k1,k2.mono (by omega),k3.mono (by omega),by decide,rfl⟩
  ·refine (Cf b x (-x) rfl y L L _ rfl w hA hB (by omega) hy hL hL).mono ?_;rintro e w' ⟨rfl,k1,k2,k3⟩;exact ⟨rfl,k1,k2,k3,hl.2,hl.1⟩
 ·obtain ⟨y,rfl⟩:∃ y:Nat,z=(y:Int):=⟨z.natAbs,by omega⟩;have e2:vU x (y:Int)=x:=if_neg hn;rw [Int.natAbs_natCast,e2];exact uA b x y L w hA hB (by omega) hL
theorem zx (b:Nat) (x y:Int) (L:Nat) (w:World) (na nb:Bool) (p q:Value) {n1 n2:Bool} {v1 v2:Value} (h1:gC w b 0 n1 v1) (h2:gC w b 2 n2 v2) (m1:aU w p x.natAbs L) (m2:aU w q y.natAbs L) (hna:na=decide (x<0)) (hnb:nb=decide (y<0)) (f1:az p≠some b) (f2:az q≠some b) :
  bB w ((((w.setCell ⟨b,0,none⟩ (.bool na)).setCell ⟨b,1,none⟩ p).setCell ⟨b,2,none⟩ (.bool nb)).setCell ⟨b,3,none⟩ q) b /\
  aB ((((w.setCell ⟨b,0,none⟩ (.bool na)).setCell ⟨b,1,none⟩ p).setCell ⟨b,2,none⟩ (.bool nb)).setCell ⟨b,3,none⟩ q) b 0 x L /\
  aB ((((w.setCell ⟨b,0,none⟩ (.bool na)).setCell ⟨b,1,none⟩ p).setCell ⟨b,2,none⟩ (.bool nb)).setCell ⟨b,3,none⟩ q) b 2 y L:=by
 have P1:fY w ((w.setCell ⟨b,0,none⟩ (.bool na)).setCell ⟨b,1,none⟩ p) b 0:=(fY.set _ (.inl rfl)).trans (fY.set _ (.inr rfl));have P2:fY ((w.setCell ⟨b,0,none⟩ (.bool na)).setCell ⟨b,1,none⟩ p) ((((w.setCell ⟨b,0,none⟩ (.bool na)).setCell ⟨b,1,none⟩ p).setCell ⟨b,2,none⟩ (.bool nb)).setCell ⟨b,3,none⟩ q) b 2:=(fY.set _ (.inl rfl)).trans (fY.set _ (.inr rfl));have b1:gC ((w.setCell ⟨b,0,none⟩ (.bool na)).setCell ⟨b,1,none⟩ p) b 0 na p:=by
  refine ⟨?_,?_,(P1.fr 0).trans h1.f0,(P1.fr 1).trans h1.f1⟩
  ·rw [World.cell?_setCell_other _ _ _ _ (by simp)];exact World.cell?_setCell_same _ _ _ h1.c0
  ·exact World.cell?_setCell_same _ _ _ (by rw [World.cell?_setCell_other _ _ _ _ (by simp)];exact h1.c1)
 have c2:gC ((w.setCell ⟨b,0,none⟩ (.bool na)).setCell ⟨b,1,none⟩ p) b 2 n2 v2:=h2.keep P1 (.inr (.inr (by omega)));refine ⟨(bB.of_put P1).trans (bB.of_put P2),?_,?_⟩
 ·exact ⟨na,p,b1.keep P2 (.inr (.inl (by omega))),(m1.keep P1.gr (fun k e h=>by cases e;exact f1 h)).keep P2.gr (fun k e h=>by cases e;exact f1 h),hna,f1⟩
 ·refine ⟨nb,q,⟨?_,?_,(P2.fr 2).trans c2.f0,(P2.fr 3).trans c2.f1⟩,?_,hnb,f2⟩
  ·rw [World.cell?_setCell_other _ _ _ _ (by simp)];exact World.cell?_setCell_same _ _ _ c2.c0
  ·exact World.cell?_setCell_same _ _ _ (by rw [World.cell?_setCell_other _ _ _ _ (by simp)];exact c2.c1)
  ·exact (m2.keep P1.gr (fun k e h=>by cases e;exact f2 h)).keep P2.gr (fun k e h=>by cases e;exact f2 h)
theorem uV (bz ba oa bb ob:Nat) (n1 n2:Bool) (v1 v2:Value) (x y:Int) (L:Nat) (w:World) (hz1:gC w bz 0 n1 v1) (hz2:gC w bz 2 n2 v2) (hA:aB w ba oa x L) (hB:aB w bb ob y L) (hy:y≠0) (hL:L<=4000000000000) :
  Calls Tryz.prog 31 #[.pointer (some ⟨bz,0,none⟩),.pointer (some ⟨ba,oa,none⟩),.pointer (some ⟨bb,ob,none⟩)] w fun e w'=>e=.returned (.pointer (some ⟨bz,0,none⟩))/\bB w w' bz/\bQ w' bz (fp (vU x y) y.natAbs) (fe (vU x y) y.natAbs) (L+2):=by
 have HA:=ab hA;have HB:=ab hB;have Z1:=ab hz1;have Z2:=ab hz2;have hzl:=hz1.lt;obtain ⟨nb,vb,b1,b2,b3,b4⟩:=hB;obtain ⟨bo,lb,cb,rfl,y1,y2,y3,y4,y5,y6⟩:=aL b2;have d1:=b1.c1;have hlb:((lb:Int)==0)=false:=beq_eq_false_iff_ne.2 (by omega);clear b1 b2 b3 b4 y1 y5 y6 hz1 hz2 hA;go_enter Tryz.func31,Tryz.ntmps31
 go_wp2_with fail;have g1:=ag (ae w none) (.cells #[.bool false,.slice none 0 0] 45);refine (sK w.heap.size 0 ba oa false (.slice none 0 0) x L _ (gh w) (HA.out.keep0 g1) (by omega)).mono ?_;rintro e w1 ⟨rfl,k1,k2,k4⟩;have K4:=ab k4;clear k4;have G1:=ab (cH g1 k1 (Nat.le_refl _));have K2:=ab k2;clear k1 k2 g1 d1;go_wp2_with fail;have g2:=ag (ae w1 none) (.cells #[.bool false,.slice none 0 0] 45);refine (sK w1.heap.size 0 bb ob false (.slice none 0 0) y L _ (gh w1) ((HB.out.keep0 G1.out).keep0 g2) (by omega)).mono ?_;rintro e w2 ⟨rfl,k1,k3,k5⟩;have K5:=ab k5;clear k5;have G2:=ab (cH g2 k1 (Nat.le_refl _));have K3:=ab k3;clear k1 k3 g2;have hs1:w.heap.size<w1.heap.size:=K2.out.lt;obtain ⟨na,va,a1,a2,a3,a4⟩:=K2.out.keep0 G2.out;obtain ⟨nb',vb',b1,b2,b3,b4⟩:=K3.out;have z1:=(Z1.out.keep0 G1.out).keep0 G2.out;have z2:=(Z2.out.keep0 G1.out).keep0 G2.out;obtain ⟨po,lp,cp,rfl,_,_,_,_,_,_⟩:=aL a2;obtain ⟨qo,lq,cq,rfl,_,_,_,_,_,_⟩:=aL b2;have m0:=a1.c0;have m1:=a1.c1;have m2:=b1.c0;have m3:=b1.c1;have x0:=z1.c0;have x1:=z1.c1;have x2:=z2.c0;have x3:=z2.c1;have f0:=z1.f0;have f1:=z1.f1;have f2:=z2.f0;have f3:=z2.f1;have A1:=ab a1;have A2:=ab a2;have A3:=ab a3;have A4:=ab a4;have B1:=ab b1;have B2:=ab b2;have B3:=ab b3;have B4:=ab b4;have ZZ1:=ab z1;have ZZ2:=ab z2;clear a1 a2 a3 a4 b1 b2 b3 b4 z1 z2;simp only [Nat.zero_add] at m0 m1 m2 m3 x0 x1 x2 x3 f0 f1 f2 f3;have F1:Hid (az (.slice po lp cp)≠some bz):=by
  intro e;have:=K4.out _ (by rw [<- A1.out.c1];exact (World.cell?_of_block (w:=w1) (a:=⟨w.heap.size,0+1,none⟩) (G2.out.block _ hs1 (by simp))).symm) bz e;simp at this;omega
 have F2:Hid (az (.slice qo lq cq)≠some bz):=by
  intro e;have:=K5.out _ B1.out.c1 bz e;have h2:=G1.out.size;simp at this;omega
 go_wp2_with fail;obtain ⟨r1,r2,r3⟩:=zx bz x y L w2 na nb' (.slice po lp cp) (.slice qo lq cq) ZZ1.out ZZ2.out A2.out B2.out A3.out B3.out F1.out F2.out;refine (Ce bz x y L _ r2 r3 hy hL).mono ?_;rintro e w3 ⟨rfl,k1,k2⟩;have RR:=ab ((bB.of_gr (aa G1.out G2.out)).trans (r1.trans k1));have KK:=ab k2;clear r1 r2 r3 k1 k2;go_wp2;go_ret;exact ⟨rfl,RR.out,KK.out⟩
end Go.Proofs.YthblidglcppakaaGreatDoor
