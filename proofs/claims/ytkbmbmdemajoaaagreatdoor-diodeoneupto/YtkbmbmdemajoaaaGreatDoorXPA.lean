/- Contracts. -/
import Derived.Test.YtkbmbmdemajoaaaGreatDoorXPz
namespace Go.Proofs.YtkbmbmdemajoaaaGreatDoor
open Go.RowKit
set_option linter.unusedVariables false
set_option linter.unusedSimpArgs false
set_option linter.unnecessarySimpa false
set_option maxHeartbeats 8000000
set_option maxRecDepth 10000
theorem Dm (b:Nat) (x0 x:Int) (hf:-x0=x) (y L M G:Nat) (hG:G=Nat.gcd x.natAbs y) (w:World) (hj:ay w b 0 x0 L) (hk:ay w b 2 (-(y:Int)) M) (hx:x≠0) (hy:0<y) (hL:L<=4000000000000) (hM:M<=4000000000000) :
  Calls Tryz.prog 140 #[.pointer (some ⟨b,0,none⟩)] w fun e J=>e=.returned (.pointer (some ⟨b,0,none⟩))/\bA w J b/\ay J b 0 (x / (G:Nat)) (L+2)/\ay J b 2 (y / G:Nat) (M+2):=by
 have hl:=ab hf;have K:=ab hG;clear hf hG;have hm:=ab hj;have ho:=ab hk;obtain ⟨hN,hQ,hw,_⟩:=hj;obtain ⟨hR,kf,E,U,hz,hC⟩:=hk;have hE:hR=true:=by rw [hz];exact decide_eq_true O
 subst hE;rw [Int.natAbs_neg,Int.natAbs_natCast] at U;obtain ⟨hS,hD,hT,rfl,hW,_,_,_,_,_⟩:=aE U;have hY:((hD:Int)==0)=false:=zB O;have hF:=E.c0;have hH:=E.c1;have P:=ab E;have Q:=ab hw;have hp:=ab hC;clear hw E U hz hC hW;go_enter Tryz.func140,Tryz.ntmps140
 go_wp2;go_region_with (go_at_call 127;refine (mR b 0 b 0 hN hQ x0 L _ (Q.keep0 (az _)) (hm.keep0 (az _)) O).mono ?_;rintro e w1 ⟨rfl,c1,c2,c3⟩)
 have C1:=ab ((fS.of_gr (az _) b 0 Q.lt).trans c1);have C2:=ab c2;have hq:=ab (ho.keep C1 (.inr (.inr O)) (fun v hv e=>by
  rw [P.c1] at hv;rw [<- zJ hv] at e;exact hp e))
 have R:=ab (P.keep C1 (.inr (.inr O)));clear c1 c2 c3 hF hH;go_wp2;go_region_with (go_at_call 127;refine (mR b 2 b 2 true (.slice hS hD hT) (-(y:Int)) M _ (R.keep0 (az _)) (hq.keep0 (az _)) O).mono ?_;rintro e V ⟨rfl,c1,c2,c3⟩)
 have C3:=ab ((fS.of_gr (az _) b 2 R.lt).trans c1);rw [Int.neg_neg] at c2;have hB:ay V b 2 (y:Int) M:=c2;have N:ay V b 0 (-x0) L:=C2.out.keep C3 (.inr (.inl O)) (fun v hv e=>by
  obtain ⟨_,v3,q1,_,_,q4⟩:=C2.out;rw [q1.c1] at hv;rw [<- zJ hv] at e;exact q4 e)
 have hA:ay V b 0 x L:=by rw [<- hl];exact N
 have R2:Hid (bA w V b):=(bA.of_put C1).trans (bA.of_put C3);clear c1 c2 c3 C1 C2 C3 hq R hm ho P Q hp hl N;have HA:=ab hA;have HB:=ab hB;obtain ⟨na,va,a1,a2,a3,a4⟩:=hA;obtain ⟨nb,vb,b1,b2,b3,b4⟩:=hB;rw [Int.natAbs_natCast] at b2;have hI:nb=false:=by rw [b3];simp
 subst hI;have c0:=a1.c0;have c1:=a1.c1;have d0:=b1.c0;have d1:=b1.c1;obtain ⟨ao,la,ca,rfl,z1,z2,z3,z4,z5,z6⟩:=aE a2;obtain ⟨bo,lb,cb,rfl,y1,y2,y3,y4,y5,y6⟩:=aE b2;have kb:((la:Int)==0)=false:=zB O;have kc:((lb:Int)==0)=false:=zB O;have A1:=ab a1;have A2:=ab a2;have A3:=ab a3;have A4:=ab a4;have B1:=ab b1;have B2:=ab b2;have B4:=ab b4;clear a1 a2 a3 a4 b1 b2 b3 b4 z1 z5 z6 y1;by_cases hJ:y=1
 ·subst hJ;have hr:((lb:Int)==1)=true:=beq_iff_eq.2 (by have:=y6 rfl;omega);obtain ⟨i,c,rfl,hX⟩:=y5 (y6 rfl);have hs:=y6 rfl;clear y5 y6;skip;go_wp2;go_ret;refine ⟨rfl,R2.trans (bA.of_gr (ae _ _)),?_,?_⟩
  ·rw [show G=1 from K.out.trans (Nat.gcd_one_right _)];simpa using HA.out.mono O
  ·rw [show G=1 from K.out.trans (Nat.gcd_one_right _)];simpa using HB.out.mono O
 ·have hu:Hid (0<x.natAbs):=by show 0<x.natAbs;omega
  have hK:((lb:Int)==1)=false∨(((lb:Int)==1)=true/\∃ i c,bo=some ⟨i,c,none⟩/\V.cell? ⟨i,c,none⟩=some (.int .u32 (y:Nat))/\(((y:Nat):Int)==1)=false/\1<=lb):=by
   by_cases h:lb=1
   ·obtain ⟨i,c,e1,e2⟩:=y5 h;exact .inr ⟨beq_iff_eq.2 O,i,c,e1,e2,zB O,O⟩
   ·exact .inl (zB O)
  clear y5 y6;rcases hK with hr | ⟨hr,i,c,rfl,hX,ka,hs⟩
  ·skip;skip;go_wp2;go_region_held3 (fun J=>J.cell? ⟨b,1,none⟩=some (.slice ao la ca)/\J.cell? ⟨b,3,none⟩=some (.slice bo lb cb)) (go_keep)
    (first | (go_at_call 170;refine (jm _ _ _ _ L M _ (A2.keep0 (az _)) (B2.keep0 (az _)) hu O O).mono ?_;rintro e z ⟨g,rfl,F,H⟩;have q1:=(A1.keep0 (aa (az _) H)).c1;have q3:=(B1.keep0 (aa (az _) H)).c1))
   have k:=aa (az _) H;rw [<- K] at F;have n:0<G:=by rw [K];exact Nat.gcd_pos_of_pos_right _ hy
   obtain ⟨go,l,cg,rfl,m1,m2,m3,m4,I,W⟩:=aE F;have e1:=A1.out.keep0 k;have e2:=B1.out.keep0 k;have f1:=e1.f1;have f3:=e2.f1;have E1:=ab e1;have E2:=ab e2;have K1:=ab F;have B:=ab k;have N1:=ab (A2.keep0 k);have N2:=ab (B2.keep0 k);clear F H k e1 e2 c0 c1 d0 d1;by_cases f:G=1
   ·have o:=W f;have r:((l:Int)==1)=true:=beq_iff_eq.2 O;obtain ⟨m,a,rfl,X⟩:=I o;have S:(((G:Nat):Int)==1)=true:=beq_iff_eq.2 O;have s:=ab f;have t:1<=l:=O
    clear m1 I W o f;go_wp2;go_ret;refine ⟨rfl,R2.trans (bA.of_gr B),?_,?_⟩
    ·rw [s];simpa using (HA.keep0 B).mono O
    ·rw [s];simpa using (HB.keep0 B).mono O
   ·have u:((l:Int)==1)=false∨(((l:Int)==1)=true/\∃ m a,go=some ⟨m,a,none⟩/\z.cell? ⟨m,a,none⟩=some (.int .u32 (G:Nat))/\(((G:Nat):Int)==1)=false/\1<=l):=by
     by_cases h:l=1
     ·obtain ⟨m,a,e1,e2⟩:=I h;exact .inr ⟨beq_iff_eq.2 O,m,a,e1,e2,zB O,O⟩
     ·exact .inl (zB O)
    clear m1 I W;rcases u with r | ⟨r,m,a,rfl,X,S,t⟩
    all_goals
     go_wp2_with fail;refine (fL _ _ _ _ L (max L M+2) _ N1 K1 n O O).mono ?_;rintro e Y ⟨p,r1,rfl,j,p2,d,A,p5⟩;obtain ⟨po,lp,cp,rfl,_,_,_,_,_,_⟩:=aE j;have u1:=E1.out.keep0 d;have u2:=E2.out.keep0 d;have s1:=u1.c1;have s2:=u2.c1;have s3:=u1.f1;have s4:=u2.f1;have P1:=ab j;have T:=ab d;have P4:=ab A;clear j p2 d A p5 q1 q3 f1 f3;go_wp2_with fail;refine (fL _ _ _ _ M (max L M+2) _ (N2.keep0 T) (K1.keep0 T) n O O).mono ?_;rintro e he ⟨q,r2,rfl,j,p2,d,A,p5⟩;obtain ⟨qo,lq,cq,rfl,_,_,_,_,_,_⟩:=aE j;have C:=u1.keep0 d;have D:=u2.keep0 d;have v1:=C.c1;have v2:=D.c1;have v3:=C.f1;have v4:=D.f1;have Q1:=ab j;have Q3:=ab d;have Q4:=ab A;have T1:=ab C;have T2:=ab D;clear j p2 d A p5 s1 s2 s3 s4 u1 u2 C D;go_wp2;go_ret;have NE:=ma b x y G L M V z Y he na (.slice po lp cp) (.slice qo lq cq) K hx hy A3 B T Q3 T1 T2 P1 Q1 P4 Q4 (A1.lt);exact ⟨rfl,R2.trans NE.1,NE.2⟩
  ·skip;skip;go_wp2;go_region_held3 (fun J=>J.cell? ⟨b,1,none⟩=some (.slice ao la ca)/\J.cell? ⟨b,3,none⟩=some (.slice (some ⟨i,c,none⟩) lb cb)) (go_keep)
    (first | (go_at_call 170;refine (jm _ _ _ _ L M _ (A2.keep0 (az _)) (B2.keep0 (az _)) hu O O).mono ?_;rintro e z ⟨g,rfl,F,H⟩;have q1:=(A1.keep0 (aa (az _) H)).c1;have q3:=(B1.keep0 (aa (az _) H)).c1))
   have k:=aa (az _) H;rw [<- K] at F;have n:0<G:=by rw [K];exact Nat.gcd_pos_of_pos_right _ hy
   obtain ⟨go,l,cg,rfl,m1,m2,m3,m4,I,W⟩:=aE F;have e1:=A1.out.keep0 k;have e2:=B1.out.keep0 k;have f1:=e1.f1;have f3:=e2.f1;have E1:=ab e1;have E2:=ab e2;have K1:=ab F;have B:=ab k;have N1:=ab (A2.keep0 k);have N2:=ab (B2.keep0 k);clear F H k e1 e2 c0 c1 d0 d1;by_cases f:G=1
   ·have o:=W f;have r:((l:Int)==1)=true:=beq_iff_eq.2 O;obtain ⟨m,a,rfl,X⟩:=I o;have S:(((G:Nat):Int)==1)=true:=beq_iff_eq.2 O;have s:=ab f;have t:1<=l:=O
    clear m1 I W o f;go_wp2;go_ret;refine ⟨rfl,R2.trans (bA.of_gr B),?_,?_⟩
    ·rw [s];simpa using (HA.keep0 B).mono O
    ·rw [s];simpa using (HB.keep0 B).mono O
   ·have u:((l:Int)==1)=false∨(((l:Int)==1)=true/\∃ m a,go=some ⟨m,a,none⟩/\z.cell? ⟨m,a,none⟩=some (.int .u32 (G:Nat))/\(((G:Nat):Int)==1)=false/\1<=l):=by
     by_cases h:l=1
     ·obtain ⟨m,a,e1,e2⟩:=I h;exact .inr ⟨beq_iff_eq.2 O,m,a,e1,e2,zB O,O⟩
     ·exact .inl (zB O)
    clear m1 I W;rcases u with r | ⟨r,m,a,rfl,X,S,t⟩
    all_goals
     go_wp2_with fail;refine (fL _ _ _ _ L (max L M+2) _ N1 K1 n O O).mono ?_;rintro e Y ⟨p,r1,rfl,j,p2,d,A,p5⟩;obtain ⟨po,lp,cp,rfl,_,_,_,_,_,_⟩:=aE j;have u1:=E1.out.keep0 d;have u2:=E2.out.keep0 d;have s1:=u1.c1;have s2:=u2.c1;have s3:=u1.f1;have s4:=u2.f1;have P1:=ab j;have T:=ab d;have P4:=ab A;clear j p2 d A p5 q1 q3 f1 f3;go_wp2_with fail;refine (fL _ _ _ _ M (max L M+2) _ (N2.keep0 T) (K1.keep0 T) n O O).mono ?_;rintro e he ⟨q,r2,rfl,j,p2,d,A,p5⟩;obtain ⟨qo,lq,cq,rfl,_,_,_,_,_,_⟩:=aE j;have C:=u1.keep0 d;have D:=u2.keep0 d;have v1:=C.c1;have v2:=D.c1;have v3:=C.f1;have v4:=D.f1;have Q1:=ab j;have Q3:=ab d;have Q4:=ab A;have T1:=ab C;have T2:=ab D;clear j p2 d A p5 s1 s2 s3 s4 u1 u2 C D;go_wp2;go_ret;have NE:=ma b x y G L M V z Y he na (.slice po lp cp) (.slice qo lq cq) K hx hy A3 B T Q3 T1 T2 P1 Q1 P4 Q4 (A1.lt);exact ⟨rfl,R2.trans NE.1,NE.2⟩
theorem xK (b:Nat) (y L M:Nat) (w:World) (l:ay w b 0 0 L) (m:ay w b 2 (-(y:Int)) M) (hy:0<y) (hL:L<=4000000000000) (hM:M<=4000000000000) :
  Calls Tryz.prog 140 #[.pointer (some ⟨b,0,none⟩)] w fun e W=>e=.returned (.pointer (some ⟨b,0,none⟩))/\bA w W b/\ay W b 0 0 L/\ay W b 2 1 2:=by
 have n:=ab l;have o:=ab m;obtain ⟨K,N,r,_⟩:=l;obtain ⟨P,hj,a,i,s,t⟩:=m;have D:P=true:=by rw [s];exact decide_eq_true O
 subst D;rw [Int.natAbs_neg,Int.natAbs_natCast] at i;obtain ⟨Q,u,R,rfl,S,_,_,_,_,_⟩:=aE i;have X:((u:Int)==0)=false:=zB O;have E:=a.c0;have F:=a.c1;have d:=ab a;have f:=ab r;have p:=ab t;clear r a i s t S;go_enter Tryz.func140,Tryz.ntmps140
 go_wp2;go_region_with (go_at_call 127;refine (mR b 0 b 0 K N 0 L _ (f.keep0 (az _)) (n.keep0 (az _)) O).mono ?_;rintro e w1 ⟨rfl,c1,j,T⟩)
 have z:=ab ((fS.of_gr (az _) b 0 f.lt).trans c1);have G:=ab j;have q:=ab (o.keep z (.inr (.inr O)) (fun v x e=>by
  rw [d.c1] at x;rw [<- zJ x] at e;exact p e))
 have g:=ab (d.keep z (.inr (.inr O)));clear c1 j T E F;go_wp2;go_region_with (go_at_call 127;refine (mR b 2 b 2 true (.slice Q u R) (-(y:Int)) M _ (g.keep0 (az _)) (q.keep0 (az _)) O).mono ?_;rintro e A ⟨rfl,c1,j,T⟩)
 have H:=ab ((fS.of_gr (az _) b 2 g.lt).trans c1);rw [Int.neg_neg] at j;have hB:ay A b 2 (y:Int) M:=j;have c:ay A b 0 (-0) L:=G.out.keep H (.inr (.inl O)) (fun v x e=>by
  obtain ⟨_,v3,q1,_,_,q4⟩:=G.out;rw [q1.c1] at x;rw [<- zJ x] at e;exact q4 e)
 have Y:ay A b 0 0 L :=  c;have R2:Hid (bA w A b):=(bA.of_put z).trans (bA.of_put H);clear c1 j T z G H q g n o d f p c;have HA:=ab Y;obtain ⟨na,va,B,U,a3,a4⟩:=Y;obtain ⟨nb,vb,C,V,b3,b4⟩:=hB;rw [Int.natAbs_natCast] at V;have I:nb=false:=by rw [b3];simp
 subst I;have c0:=B.c0;have c1:=B.c1;have d0:=C.c0;have d1:=C.c1;obtain ⟨ao,la,ca,rfl,z1,z2,z3,z4,z5,z6⟩:=aE U;obtain ⟨bo,lb,cb,rfl,y1,y2,y3,y4,y5,y6⟩:=aE V;have he:((la:Int)==0)=true:=beq_iff_eq.2 (by have:=z1.2 rfl;omega);have hf:((lb:Int)==0)=false:=zB O;have A1:=ab B;have A2:=ab U;have A4:=ab a4;have A3:=ab a3;have B1:=ab C;clear B U a3 a4 C V b3 b4 z1 z5 z6 y1 y5 y6;skip;go_wp2_with fail;refine (ki b 2 false (.slice bo lb cb) 1 _ B1 O O).mono ?_;rintro e hk ⟨rfl,k1,k2,_⟩;have J:=ab k1;have K2:=ab k2;clear k1 k2;go_wp2;go_ret;refine ⟨rfl,R2.trans (bA.of_put J),?_,K2⟩;exact ⟨na,.slice ao la ca,A1.keep J (.inr (.inl O)),A2.keep J.gr (fun k e h=>by cases e;exact A4 h),A3,A4⟩
def tG (x z:Int):Int:=if z<0 then -x else x
theorem Dl (b:Nat) (x z:Int) (L:Nat) (w:World) (c:ay w b 0 x L) (d:ay w b 2 z L) (n:z≠0) (a:L<=4000000000000) :
  Calls Tryz.prog 140 #[.pointer (some ⟨b,0,none⟩)] w fun e w'=>e=.returned (.pointer (some ⟨b,0,none⟩))/\bA w w' b/\bJ w' b (ft (tG x z) z.natAbs) (fj (tG x z) z.natAbs) (L+2):=by
 by_cases hn:z<0
 ·obtain ⟨y,rfl⟩:∃ y:Nat,z = -(y:Int):=⟨z.natAbs,O⟩;have k:(-(y:Int)).natAbs=y:=O
  have f:tG x (-(y:Int)) = -x:=if_pos hn;rw [k,f];have hy:0<y:=O
  have j:=yP (-x) y hy;by_cases l:x=0
  ·subst l;refine (xK b y L L w c d hy a a).mono ?_;rintro e w' ⟨rfl,g,h,i⟩;have f1:ft (-0) y=0:=by simp [ft]
   have m:fj (-0) y=1:=by simp [fj];exact Nat.div_self hy
   rw [f1,m];exact ⟨rfl,g,h.mono O,i.mono O,zD,rfl⟩
  ·refine (Dm b x (-x) rfl y L L _ rfl w c d O hy a a).mono ?_;rintro e w' ⟨rfl,g,h,i⟩;exact ⟨rfl,g,h,i,j.2,j.1⟩
 ·obtain ⟨y,rfl⟩:∃ y:Nat,z=(y:Int):=⟨z.natAbs,O⟩;have f:tG x (y:Int)=x:=if_neg hn;rw [Int.natAbs_natCast,f];exact uO b x y L w c d O a
theorem As (b:Nat) (x y:Int) (L:Nat) (w:World) (a c:Bool) (p q:Value) {o n:Bool} {v1 v2:Value} (g:gh w b 0 o v1) (r:gh w b 2 n v2) (s:aQ w p x.natAbs L) (t:aQ w q y.natAbs L) (j:a=decide (x<0)) (l:c=decide (y<0)) (f1:ar p≠some b) (m:ar q≠some b) :
  bA w ((((w.setCell ⟨b,0,none⟩ (.bool a)).setCell ⟨b,1,none⟩ p).setCell ⟨b,2,none⟩ (.bool c)).setCell ⟨b,3,none⟩ q) b /\
  ay ((((w.setCell ⟨b,0,none⟩ (.bool a)).setCell ⟨b,1,none⟩ p).setCell ⟨b,2,none⟩ (.bool c)).setCell ⟨b,3,none⟩ q) b 0 x L /\
  ay ((((w.setCell ⟨b,0,none⟩ (.bool a)).setCell ⟨b,1,none⟩ p).setCell ⟨b,2,none⟩ (.bool c)).setCell ⟨b,3,none⟩ q) b 2 y L:=by
 have d:fS w ((w.setCell ⟨b,0,none⟩ (.bool a)).setCell ⟨b,1,none⟩ p) b 0:=(fS.set _ (.inl rfl)).trans (fS.set _ (.inr rfl));have f:fS ((w.setCell ⟨b,0,none⟩ (.bool a)).setCell ⟨b,1,none⟩ p) ((((w.setCell ⟨b,0,none⟩ (.bool a)).setCell ⟨b,1,none⟩ p).setCell ⟨b,2,none⟩ (.bool c)).setCell ⟨b,3,none⟩ q) b 2:=(fS.set _ (.inl rfl)).trans (fS.set _ (.inr rfl));have u:gh ((w.setCell ⟨b,0,none⟩ (.bool a)).setCell ⟨b,1,none⟩ p) b 0 a p:=by
  refine ⟨?_,?_,(d.fr 0).trans g.f0,(d.fr 1).trans g.f1⟩
  ·rw [World.cell?_setCell_other _ _ _ _ Z];exact World.cell?_setCell_same _ _ _ g.c0
  ·exact World.cell?_setCell_same _ _ _ (by rw [World.cell?_setCell_other _ _ _ _ Z];exact g.c1)
 have i:gh ((w.setCell ⟨b,0,none⟩ (.bool a)).setCell ⟨b,1,none⟩ p) b 2 n v2:=r.keep d (.inr (.inr O));refine ⟨(bA.of_put d).trans (bA.of_put f),?_,?_⟩
 ·exact ⟨a,p,u.keep f (.inr (.inl O)),(s.keep d.gr (fun k e h=>by cases e;exact f1 h)).keep f.gr (fun k e h=>by cases e;exact f1 h),j,f1⟩
 ·refine ⟨c,q,⟨?_,?_,(f.fr 2).trans i.f0,(f.fr 3).trans i.f1⟩,?_,l,m⟩
  ·rw [World.cell?_setCell_other _ _ _ _ Z];exact World.cell?_setCell_same _ _ _ i.c0
  ·exact World.cell?_setCell_same _ _ _ (by rw [World.cell?_setCell_other _ _ _ _ Z];exact i.c1)
  ·exact (t.keep d.gr (fun k e h=>by cases e;exact m h)).keep f.gr (fun k e h=>by cases e;exact m h)
theorem nF (b q r s ob:Nat) (V W:Bool) (v1 v2:Value) (x y:Int) (L:Nat) (w:World) (d:gh w b 0 V v1) (j:gh w b 2 W v2) (D:ay w q r x L) (E:ay w s ob y L) (hy:y≠0) (X:L<=4000000000000) :
  Calls Tryz.prog 86 #[.pointer (some ⟨b,0,none⟩),.pointer (some ⟨q,r,none⟩),.pointer (some ⟨s,ob,none⟩)] w fun e U=>e=.returned (.pointer (some ⟨b,0,none⟩))/\bA w U b/\bJ U b (ft (tG x y) y.natAbs) (fj (tG x y) y.natAbs) (L+2):=by
 have Y:=ab D;have HB:=ab E;have Z1:=ab d;have Z2:=ab j;have he:=d.lt;obtain ⟨nb,vb,f,i,n,o⟩:=E;obtain ⟨bo,lb,cb,rfl,y1,y2,y3,y4,y5,y6⟩:=aE i;have d1:=f.c1;have hf:((lb:Int)==0)=false:=zB O;clear f i n o y1 y5 y6 d j D;go_enter Tryz.func86,Tryz.ntmps86
 go_wp2_with fail;have t:=ag (ae w none) (.cells #[.bool false,.slice none 0 0] 106);refine (pY w.heap.size 0 q r false (.slice none 0 0) x L _ (fH w) (Y.keep0 t) O).mono ?_;rintro e w1 ⟨rfl,c,m,G⟩;have K4:=ab G;clear G;have k:=ab (cw t c zL);have F:=ab m;clear c m t d1;go_wp2_with fail;have u:=ag (ae w1 none) (.cells #[.bool false,.slice none 0 0] 106);refine (pY w1.heap.size 0 s ob false (.slice none 0 0) y L _ (fH w1) ((HB.keep0 k).keep0 u) O).mono ?_;rintro e w2 ⟨rfl,c,H,I⟩;have K5:=ab I;clear I;have l:=ab (cw u c zL);have K3:=ab H;clear c H u;have v:w.heap.size<w1.heap.size:=F.out.lt;obtain ⟨na,va,p,B,J,K⟩:=F.out.keep0 l;obtain ⟨C,hj,f,i,n,o⟩:=K3.out;have g:=(Z1.keep0 k).keep0 l;have h:=(Z2.keep0 k).keep0 l;obtain ⟨M,N,P,rfl,_,_,_,_,_,_⟩:=aE B;obtain ⟨Q,R,S,rfl,_,_,_,_,_,_⟩:=aE i;have m0:=p.c0;have m1:=p.c1;have m2:=f.c0;have m3:=f.c1;have x0:=g.c0;have x1:=g.c1;have x2:=h.c0;have x3:=h.c1;have f0:=g.f0;have f1:=g.f1;have f2:=h.f0;have f3:=h.f1;have A1:=ab p;have A2:=ab B;have A3:=ab J;have A4:=ab K;have B1:=ab f;have B2:=ab i;have B3:=ab n;have B4:=ab o;have z:=ab g;have A:=ab h;clear p B J K f i n o g h;simp only [Nat.zero_add] at m0 m1 m2 m3 x0 x1 x2 x3 f0 f1 f2 f3;have F1:Hid (ar (.slice M N P)≠some b):=by
  intro e;have:=K4.out _ (by rw [<- A1.c1];exact (World.cell?_of_block (w:=w1) (a:=⟨w.heap.size,0+1,none⟩) (l.block _ v Z)).symm) b e;simp at this;omega
 have F2:Hid (ar (.slice Q R S)≠some b):=by
  intro e;have:=K5.out _ B1.c1 b e;have h2:=k.out.size;simp at this;omega
 go_wp2_with fail;obtain ⟨r1,r2,T⟩:=As b x y L w2 na C (.slice M N P) (.slice Q R S) z A A2 B2 A3 B3 F1 F2;refine (Dl b x y L _ r2 T hy X).mono ?_;rintro e w3 ⟨rfl,c,m⟩;have RR:=ab ((bA.of_gr (aa k l)).trans (r1.trans c));have KK:=ab m;clear r1 r2 T c m;go_wp2;go_ret;exact ⟨rfl,RR,KK⟩
def mT:Sg->Bool | (k,x,y,z)=>x && decide (k<=6) && (decide (k<2) || y) && (decide (k<4) || z)
def lQU:Sg->Array Bool | (k,_,y,z)=>#[true,y,true,true,true,true,decide (1<=k),decide (2<=k),z,true,decide (3<=k),true,true,true,decide (4<=k),decide (5<=k),decide (6<=k)]
def DW:Sg->List Nat | (k,_,y,z)=>(if y then [] else [1])++(if k=0 then [6] else [])++(if k=1/\y then [7] else [])++(if z then [] else [8])++(if k=2 then [10] else [])++(if k=3/\z then [14] else [])++(if k=4 then [15] else [])++(if k=5 then [16] else [])
def jR:Sg->Nat->Sg | (k,x,y,z),i=>if i=1 then (k,x,true,z) else if i=8 then (k,x,y,true) else (k+1,x,y,z)
theorem D5 {k:Nat} {x y z:Bool} (b:DW (k,x,y,z)=[]) (a:mT (k,x,y,z)=true):k=6/\y=true/\z=true:=by
 rcases k with _ | _ | _ | _ | _ | _ | _ | k<;>cases x<;>cases y<;>cases z<;>first | (simp [mT] at a;done) | (simp [DW] at b;done) | simp
theorem DZ {k i:Nat} {x y z:Bool} (h:i∈DW (k,x,y,z)):(i=1/\y=false)∨(i=8/\z=false)∨(i=6/\k=0)∨(i=7/\k=1/\y=true)∨(i=10/\k=2)∨(i=14/\k=3/\z=true)∨(i=15/\k=4)∨(i=16/\k=5):=by
 unfold DW at h;simp only [List.mem_append] at h;rcases h with ((((((h | h) | h) | h) | h) | h) | h) | h<;>split at h<;>simp_all
theorem xU (c g j:Nat) (C D:Bool) (v1 v2:Value) (n d:Int) (f o L M:Nat) (w:World) (s:gh w c 0 C v1) (t:gh w c 2 D v2) (E:ay w g 0 n L) (F:ay w j 0 d M) (G:kV w g f L) (H:kV w j o M) (v:(f:Int)*d≠0) (hL:L+M<=3900000000000) :
  Calls Tryz.prog 87 #[.pointer (some ⟨c,0,none⟩),.pointer (some ⟨g,0,none⟩),.pointer (some ⟨j,0,none⟩)] w fun e P=>e=.returned (.pointer (some ⟨c,0,none⟩))/\bA w P c/\bJ P c (ft (tG (n*(o:Int)) ((f:Int)*d)) ((f:Int)*d).natAbs) (fj (tG (n*(o:Int)) ((f:Int)*d)) ((f:Int)*d).natAbs) (L+M+2):=by
 have R:=ab E;have S:=ab F;have T:=ab G;have U:=ab H;have V:=ab s;have W:=ab t;clear E F G H s t;go_enter Tryz.func87,Tryz.ntmps87
 go_upto_region 1 with fail;refine hd (fun _=>True) (fun _=>?_) (hS:=trivial);refine tk 8 [(0,7,pp c 0),(2,9,pp g 0),(3,10,pp g 0),(4,11,pp g 0),(5,12,pp j 0),(9,16,pp g 0),(11,18,pp j 0),(12,19,pp j 0),(13,20,pp j 0)] ?_;refine wk (st3 mT) lQU m3 DW jR (fun (k,x,y,z) a wx=>∃ q r d1 o1 d2 o2:Nat,mT (k,x,y,z)=true/\a=⟨#[pp c 0,pp g 0,pp j 0,undef,undef,undef,(if 6<=k then pp c 0 else .pointer none),pp c 0,nD y q 0,pp g 0,pp g 0,pp g 0,pp j 0,nD (decide (1<=k)) d1 o1,nD (decide (2<=k)) q 0,nD z r 0,pp g 0,nD (decide (3<=k)) d2 o2,pp j 0,pp j 0,pp j 0,nD (decide (4<=k)) r 0,nD (decide (5<=k)) c 0],[]⟩
   /\ (k<5->dB w wx (fl (decide (k<2) && y) q++fl (decide (k<4) && z) r) ([⟨r,0,(f:Int)*d,L+M⟩,⟨d2,o2,(f:Int),L⟩,⟨q,0,n*(o:Int),L+M⟩,⟨d1,o1,(o:Int),M⟩,⟨g,0,n,L⟩,⟨j,0,d,M⟩].drop (4-k)))
   /\ (5<=k->bA w wx c/\bJ wx c (ft (tG (n*(o:Int)) ((f:Int)*d)) ((f:Int)*d).natAbs) (fj (tG (n*(o:Int)) ((f:Int)*d)) ((f:Int)*d).natAbs) (L+M+2))) (0,true,false,false) ⟨0,0,0,0,0,0,rfl,rfl,fun _=>((dB.start (sM (ae w none))).old S).old R,fun h=>absurd h (by simp [jR])⟩ ?_
 rintro ⟨k,x,y,z⟩ a wx ⟨q,r,d1,o1,d2,o2,b,rfl,l⟩;refine ⟨fun Q=>?_,fun i hi K p=>?_⟩
 ·obtain ⟨rfl,rfl,rfl⟩:=D5 Q b;obtain ⟨m,I⟩:=l.2 O;have X:=ab m;have Y:=ab I;clear m I l Q b;simp only [nD];go_wp2;go_ret;exact ⟨rfl,X,Y⟩
 ·have hm:=DZ hi;have hh:x=true/\k<=6/\(k<2∨y=true)/\(k<4∨z=true):=by simp only [mT,Bool.and_eq_true,Bool.or_eq_true,decide_eq_true_eq] at b;exact ⟨b.1.1.1,b.1.1.2,b.1.2,b.2⟩
  clear b hi;rcases hm with ⟨rfl,rfl⟩ | ⟨rfl,rfl⟩ | ⟨rfl,rfl⟩ | ⟨rfl,rfl,rfl⟩ | ⟨rfl,rfl⟩ | ⟨rfl,rfl,rfl⟩ | ⟨rfl,rfl⟩ | ⟨rfl,rfl⟩<;>simp only [ax,q4,q5,q6,q7]
  ·go_simp
   rcases k with _ | _ | _ | _ | _ | k<;>first
    | exact p _ _ ⟨wx.heap.size,r,d1,o1,d2,o2,by simpa [mT,jR,and_assoc] using hh,rfl,fun h=>dB.alloc (A:=[]) (l.1 h),fun h=>absurd h (by simp [jR])⟩
    | (exfalso;obtain ⟨h,h0,J,N⟩:=hh;rcases J with h | h<;>first | omega | cases h)
  ·go_simp
   rcases k with _ | _ | _ | _ | _ | k<;>first
    | exact p _ _ ⟨q,wx.heap.size,d1,o1,d2,o2,by simpa [mT,jR,and_assoc] using hh,rfl,fun h=>dB.alloc (A:=fl (decide (_<2) && y) q) (l.1 h),fun h=>absurd h (by simp [jR])⟩
    | (exfalso;obtain ⟨h,h0,J,N⟩:=hh;rcases N with h | h<;>first | omega | cases h)
  ·go_simp
   go_at_call 51
   refine (U _ _ _ (l.1 O)).mono ?_;rintro e w1 ⟨d1,o1,rfl,_,m⟩;go_wp2_with fail;exact p _ _ ⟨q,r,d1,o1,d2,o2,by simpa [mT,jR,and_assoc] using hh,rfl,fun _=>m,fun h=>absurd h (by simp [jR])⟩
  ·go_simp
   go_at_call 125
   refine (dB.mul (A:=[]) (l.1 O) (x:=n) (y:=(o:Int)) (L:=L) (M:=M) Z Z O).mono ?_;rintro e w1 ⟨rfl,m⟩;go_wp2_with fail;exact p _ _ ⟨q,r,d1,o1,d2,o2,by simpa [mT,jR,and_assoc] using hh,rfl,fun _=>m,fun h=>absurd h (by simp [jR])⟩
  ·go_simp
   go_at_call 51
   refine (T _ _ _ (l.1 O)).mono ?_;rintro e w1 ⟨d2,o2,rfl,_,m⟩;go_wp2_with fail;exact p _ _ ⟨q,r,d1,o1,d2,o2,by simpa [mT,jR,and_assoc] using hh,rfl,fun _=>m,fun h=>absurd h (by simp [jR])⟩
  ·go_simp
   go_at_call 125
   refine (dB.mul (A:=[]) (B:=[]) (l.1 O) (x:=(f:Int)) (y:=d) (L:=L) (M:=M) Z Z O).mono ?_;rintro e w1 ⟨rfl,m⟩;go_wp2_with fail;exact p _ _ ⟨q,r,d1,o1,d2,o2,by simpa [mT,jR,and_assoc] using hh,rfl,fun _=>m,fun h=>absurd h (by simp [jR])⟩
  ·go_simp
   go_at_call 86
   have u:=l.1 O;refine (nF c q 0 r 0 C D v1 v2 (n*(o:Int)) ((f:Int)*d) (L+M) _ (V.keep0 u.gr) (W.keep0 u.gr) (u.away (L:=L+M) Z) (u.away (L:=L+M) Z) v O).mono ?_;rintro e w1 ⟨rfl,r1,r2⟩;go_wp2_with fail;exact p _ _ ⟨q,r,d1,o1,d2,o2,by simpa [mT,jR,and_assoc] using hh,rfl,fun h=>absurd h (by simp [jR]),fun _=>⟨(bA.of_gr u.gr).trans r1,r2⟩⟩
  ·go_simp
   exact p _ _ ⟨q,r,d1,o1,d2,o2,by simpa [mT,jR,and_assoc] using hh,rfl,fun h=>absurd h (by simp [jR]),fun _=>l.2 O⟩
theorem DK (p:Rat) {q:Rat} (h:q≠0):(p.den:Int)*q.num≠0:=by
 have b:=p.den_pos;have a:q.num≠0:=fun e=>h (Rat.num_eq_zero.1 e)
 exact Int.mul_ne_zero O a
theorem quo_up (p:Rat) {q:Rat} (h:q≠0):mkRat (tG (p.num*(q.den:Int)) ((p.den:Int)*q.num)) ((p.den:Int)*q.num).natAbs=p / q:=by
 have d:=p.den_pos;have f:q.num≠0:=fun e=>h (Rat.num_eq_zero.1 e)
 have hd:=DI p q;rw [<- hd];have c:((p.den:Int)*q.num).natAbs=rN q*p.den:=by
  rw [Int.natAbs_mul,Int.natAbs_natCast,Nat.mul_comm];rfl
 rw [c];congr 1
 unfold tG;by_cases hn:q.num<0
 ·have:(p.den:Int)*q.num<0:=Int.mul_neg_of_pos_of_neg O hn;rw [if_pos this];have hb:rB q=true:=by unfold rB;exact decide_eq_true hn
  rw [hb];have:=fp p;rw [eO];rw [<- Int.neg_mul];congr 1
  rw [<- this];unfold fP;cases rB p<;>simp
 ·have:¬ (p.den:Int)*q.num<0:=by
   have:=Int.mul_nonneg (a:=(p.den:Int)) (b:=q.num) O O;omega
  rw [if_neg this];have hb:rB q=false:=by unfold rB;exact decide_eq_false hn
  rw [hb,eO];congr 1
  rw [Bool.bne_false];exact (fp p).symm
theorem vi (b c:Nat) (p q:Rat) (L M:Nat) (w:World) (f:RX w b p L) (g:RX w c q M) (d:q≠0) (l:L+M<=3900000000000) :
  Calls Tryz.prog 46 #[.pointer (some ⟨b,0,none⟩),.pointer (some ⟨c,0,none⟩)] w fun e o=>BG w (p / q) (L+M+2) e o:=by
 have h:=ab f;have i:=ab g;clear f g;go_enter Tryz.func46,Tryz.ntmps46
 go_wp2_with fail;have a:=ag (ae w none) (.cells #[.bool false,.slice none 0 0,.bool false,.slice none 0 0] 108);refine (xU w.heap.size b c false false (.slice none 0 0) (.slice none 0 0) _ _ _ _ L M _ (dZ w).1 (dZ w).2 (h.1.keep0 a) (i.1.keep0 a) (h.2.keep0 a) (i.2.keep0 a) (DK p d) l).mono ?_;rintro e w1 ⟨rfl,j,k⟩;have m:=ab j;have n:=ab k;clear j k a;go_wp2;go_ret;exact ⟨_,rfl,bJ.q (by have:=DK p d;omega) (quo_up p d) n,kA (ag (ae _ _) _) m zL,zL⟩
def mS:Sg->Bool | (k,x,y,z)=>x && decide (k<=6) && (decide (k<1) || y) && (decide (k<4) || z)
def lMU:Sg->Array Bool | (k,_,y,z)=>#[true,y,true,true,true,true,true,true,decide (1<=k),z,true,decide (2<=k),true,decide (3<=k),decide (4<=k),decide (5<=k),decide (6<=k)]
def DT:Sg->List Nat | (k,_,y,z)=>(if y then [] else [1])++(if k=0/\y then [8] else [])++(if z then [] else [9])++(if k=1 then [11] else [])++(if k=2 then [13] else [])++(if k=3/\z then [14] else [])++(if k=4 then [15] else [])++(if k=5 then [16] else [])
def jQ:Sg->Nat->Sg | (k,x,y,z),i=>if i=1 then (k,x,true,z) else if i=9 then (k,x,y,true) else (k+1,x,y,z)
theorem DV {k:Nat} {x y z:Bool} (b:DT (k,x,y,z)=[]) (a:mS (k,x,y,z)=true):k=6/\y=true/\z=true:=by
 rcases k with _ | _ | _ | _ | _ | _ | _ | k<;>cases x<;>cases y<;>cases z<;>first | (simp [mS] at a;done) | (simp [DT] at b;done) | simp
theorem DU {k i:Nat} {x y z:Bool} (h:i∈DT (k,x,y,z)):(i=1/\y=false)∨(i=9/\z=false)∨(i=8/\k=0/\y=true)∨(i=11/\k=1)∨(i=13/\k=2)∨(i=14/\k=3/\z=true)∨(i=15/\k=4)∨(i=16/\k=5):=by
 unfold DT at h;simp only [List.mem_append] at h;rcases h with ((((((h | h) | h) | h) | h) | h) | h) | h<;>split at h<;>simp_all
theorem xT (c g j:Nat) (C D:Bool) (v1 v2:Value) (n o:Int) (d f L M:Nat) (w:World) (s:gh w c 0 C v1) (t:gh w c 2 D v2) (E:ay w g 0 n L) (F:ay w j 0 o M) (G:kV w g d L) (H:kV w j f M) (v:(d:Int)*(f:Int)≠0) (hL:L+M<=3900000000000) :
  Calls Tryz.prog 89 #[.pointer (some ⟨c,0,none⟩),.pointer (some ⟨g,0,none⟩),.pointer (some ⟨j,0,none⟩)] w fun e P=>e=.returned (.pointer (some ⟨c,0,none⟩))/\bA w P c/\bJ P c (ft (tG (n*o) ((d:Int)*(f:Int))) ((d:Int)*(f:Int)).natAbs) (fj (tG (n*o) ((d:Int)*(f:Int))) ((d:Int)*(f:Int)).natAbs) (L+M+2):=by
 have R:=ab E;have S:=ab F;have T:=ab G;have U:=ab H;have V:=ab s;have W:=ab t;clear E F G H s t;go_enter Tryz.func89,Tryz.ntmps89
 go_upto_region 1 with fail;refine hd (fun _=>True) (fun _=>?_) (hS:=trivial);refine tk 8 [(0,7,pp c 0),(2,9,pp g 0),(3,10,pp g 0),(4,11,pp g 0),(5,12,pp j 0),(6,13,pp j 0),(7,14,pp j 0),(10,17,pp g 0),(12,19,pp j 0)] ?_;refine wk (st3 mS) lMU m3 DT jQ (fun (k,x,y,z) a wx=>∃ q r d1 o1 d2 o2:Nat,mS (k,x,y,z)=true/\a=⟨#[pp c 0,pp g 0,pp j 0,undef,undef,undef,(if 6<=k then pp c 0 else .pointer none),pp c 0,nD y q 0,pp g 0,pp g 0,pp g 0,pp j 0,pp j 0,pp j 0,nD (decide (1<=k)) q 0,nD z r 0,pp g 0,nD (decide (2<=k)) d1 o1,pp j 0,nD (decide (3<=k)) d2 o2,nD (decide (4<=k)) r 0,nD (decide (5<=k)) c 0],[]⟩
   /\ (k<5->dB w wx (fl (decide (k<1) && y) q++fl (decide (k<4) && z) r) ([⟨r,0,(d:Int)*(f:Int),L+M⟩,⟨d2,o2,(f:Int),M⟩,⟨d1,o1,(d:Int),L⟩,⟨q,0,n*o,L+M⟩,⟨g,0,n,L⟩,⟨j,0,o,M⟩].drop (4-k)))
   /\ (5<=k->bA w wx c/\bJ wx c (ft (tG (n*o) ((d:Int)*(f:Int))) ((d:Int)*(f:Int)).natAbs) (fj (tG (n*o) ((d:Int)*(f:Int))) ((d:Int)*(f:Int)).natAbs) (L+M+2))) (0,true,false,false) ⟨0,0,0,0,0,0,rfl,rfl,fun _=>((dB.start (sM (ae w none))).old S).old R,fun h=>absurd h (by simp [jQ])⟩ ?_
 rintro ⟨k,x,y,z⟩ a wx ⟨q,r,d1,o1,d2,o2,b,rfl,l⟩;refine ⟨fun Q=>?_,fun i hi K p=>?_⟩
 ·obtain ⟨rfl,rfl,rfl⟩:=DV Q b;obtain ⟨m,I⟩:=l.2 O;have X:=ab m;have Y:=ab I;clear m I l Q b;simp only [nD];go_wp2;go_ret;exact ⟨rfl,X,Y⟩
 ·have hm:=DU hi;have hh:x=true/\k<=6/\(k<1∨y=true)/\(k<4∨z=true):=by simp only [mS,Bool.and_eq_true,Bool.or_eq_true,decide_eq_true_eq] at b;exact ⟨b.1.1.1,b.1.1.2,b.1.2,b.2⟩
  clear b hi;rcases hm with ⟨rfl,rfl⟩ | ⟨rfl,rfl⟩ | ⟨rfl,rfl,rfl⟩ | ⟨rfl,rfl⟩ | ⟨rfl,rfl⟩ | ⟨rfl,rfl,rfl⟩ | ⟨rfl,rfl⟩ | ⟨rfl,rfl⟩<;>simp only [ax,q4,q5,q6,q7]
  ·go_simp
   rcases k with _ | _ | _ | _ | _ | k<;>first
    | exact p _ _ ⟨wx.heap.size,r,d1,o1,d2,o2,by simpa [mS,jQ,and_assoc] using hh,rfl,fun h=>dB.alloc (A:=[]) (l.1 h),fun h=>absurd h (by simp [jQ])⟩
    | (exfalso;obtain ⟨h,h0,J,N⟩:=hh;rcases J with h | h<;>first | omega | cases h)
  ·go_simp
   rcases k with _ | _ | _ | _ | _ | k<;>first
    | exact p _ _ ⟨q,wx.heap.size,d1,o1,d2,o2,by simpa [mS,jQ,and_assoc] using hh,rfl,fun h=>dB.alloc (A:=fl (decide (_<1) && y) q) (l.1 h),fun h=>absurd h (by simp [jQ])⟩
    | (exfalso;obtain ⟨h,h0,J,N⟩:=hh;rcases N with h | h<;>first | omega | cases h)
  ·go_simp
   go_at_call 125
   refine (dB.mul (A:=[]) (l.1 O) (x:=n) (y:=o) (L:=L) (M:=M) Z Z O).mono ?_;rintro e w1 ⟨rfl,m⟩;go_wp2_with fail;exact p _ _ ⟨q,r,d1,o1,d2,o2,by simpa [mS,jQ,and_assoc] using hh,rfl,fun _=>m,fun h=>absurd h (by simp [jQ])⟩
  ·go_simp
   go_at_call 51
   refine (T _ _ _ (l.1 O)).mono ?_;rintro e w1 ⟨d1,o1,rfl,_,m⟩;go_wp2_with fail;exact p _ _ ⟨q,r,d1,o1,d2,o2,by simpa [mS,jQ,and_assoc] using hh,rfl,fun _=>m,fun h=>absurd h (by simp [jQ])⟩
  ·go_simp
   go_at_call 51
   refine (U _ _ _ (l.1 O)).mono ?_;rintro e w1 ⟨d2,o2,rfl,_,m⟩;go_wp2_with fail;exact p _ _ ⟨q,r,d1,o1,d2,o2,by simpa [mS,jQ,and_assoc] using hh,rfl,fun _=>m,fun h=>absurd h (by simp [jQ])⟩
  ·go_simp
   go_at_call 125
   refine (dB.mul (A:=[]) (B:=[]) (l.1 O) (x:=(d:Int)) (y:=(f:Int)) (L:=L) (M:=M) Z Z O).mono ?_;rintro e w1 ⟨rfl,m⟩;go_wp2_with fail;exact p _ _ ⟨q,r,d1,o1,d2,o2,by simpa [mS,jQ,and_assoc] using hh,rfl,fun _=>m,fun h=>absurd h (by simp [jQ])⟩
  ·go_simp
   go_at_call 86
   have u:=l.1 O;refine (nF c q 0 r 0 C D v1 v2 (n*o) ((d:Int)*(f:Int)) (L+M) _ (V.keep0 u.gr) (W.keep0 u.gr) (u.away (L:=L+M) Z) (u.away (L:=L+M) Z) v O).mono ?_;rintro e w1 ⟨rfl,r1,r2⟩;go_wp2_with fail;exact p _ _ ⟨q,r,d1,o1,d2,o2,by simpa [mS,jQ,and_assoc] using hh,rfl,fun h=>absurd h (by simp [jQ]),fun _=>⟨(bA.of_gr u.gr).trans r1,r2⟩⟩
  ·go_simp
   exact p _ _ ⟨q,r,d1,o1,d2,o2,by simpa [mS,jQ,and_assoc] using hh,rfl,fun h=>absurd h (by simp [jQ]),fun _=>l.2 O⟩
theorem upS_pos (x:Int) {z:Int} (h:0<z):tG x z=x:=if_neg O
theorem gT (p q:Rat):(p.den:Int)*(q.den:Int)≠0:=by
 have a:=p.den_pos;have b:=q.den_pos;have:0<(p.den:Int)*(q.den:Int):=Int.mul_pos O O;omega
theorem mul_up (p q:Rat):mkRat (tG (p.num*q.num) ((p.den:Int)*(q.den:Int))) ((p.den:Int)*(q.den:Int)).natAbs=p*q:=by
 have a:=p.den_pos;have b:=q.den_pos;have:0<(p.den:Int)*(q.den:Int):=Int.mul_pos O O;rw [upS_pos _ this,<- Int.natCast_mul,Int.natAbs_natCast];exact (Rat.mul_def p q).symm▸(Rat.normalize_eq_mkRat _).symm
theorem DM (b c:Nat) (p q:Rat) (L M:Nat) (w:World) (d:RX w b p L) (f:RX w c q M) (k:L+M<=3900000000000) :
  Calls Tryz.prog 48 #[.pointer (some ⟨b,0,none⟩),.pointer (some ⟨c,0,none⟩)] w fun e n=>BG w (p*q) (L+M+2) e n:=by
 have g:=ab d;have h:=ab f;clear d f;go_enter Tryz.func48,Tryz.ntmps48
 go_wp2_with fail;have a:=ag (ae w none) (.cells #[.bool false,.slice none 0 0,.bool false,.slice none 0 0] 108);refine (xT w.heap.size b c false false (.slice none 0 0) (.slice none 0 0) _ _ _ _ L M _ (dZ w).1 (dZ w).2 (g.1.keep0 a) (h.1.keep0 a) (g.2.keep0 a) (h.2.keep0 a) (gT p q) k).mono ?_;rintro e w1 ⟨rfl,i,j⟩;have l:=ab i;have m:=ab j;clear i j a;go_wp2;go_ret;exact ⟨_,rfl,bJ.q (by have:=gT p q;omega) (mul_up p q) m,kA (ag (ae _ _) _) l zL,zL⟩
def dV (z:Int):List UInt8:=if z<0 then 45 :: Lib.decDigits z.natAbs else Lib.decDigits z.natAbs
def dgB (r:Nat):UInt8:=UInt8.ofNat (48+r)
theorem byte_of (r:Nat) (h:r<10):(48+(r:Int))=((dgB r).toNat:Int):=by
 unfold dgB;rw [UInt8.toNat_ofNat'];omega
def wI (n m:Nat) (acc:List UInt8):Prop:=(m≠0->Lib.decDigits n=Lib.decDigits m++acc.reverse)/\(m=0->Lib.decDigits n=acc.reverse)
theorem wI.step {n m:Nat} {a:List UInt8} (h:wI n m a) (d:m≠0):wI n (m / 10) (a++[dgB (m % 10)]):=by
 have b:=h.1 d;unfold wI dgB;rw [List.reverse_append,List.reverse_singleton];refine ⟨fun e=>?_,fun e=>?_⟩
 ·rw [b,oZ O,List.append_assoc]
 ·have c:m<10:=O
  rw [b,Lib.decDigits_one c,Nat.mod_eq_of_lt c]
theorem rj (z:Int):0<(dV z).length:=by
 have:=Lib.nDigits_pos z.natAbs;rw [<- Lib.decDigits_length] at this;unfold dV;split
 ·simp
 ·omega
def SwpR (w:World) (g c:Nat) (l:List UInt8) (i:Nat) (wr:World):Prop:=eC wr w.heap.size (.slice (some ⟨g,0,none⟩) l.length c) (dI l i)/\w.grownBy wr none
theorem eC.swap {w:World} {base g c i j:Nat} {l:List UInt8} (h:eC w base (.slice (some ⟨g,0,none⟩) l.length c) (dI l i)) (hi:i+i+1<l.length) (k:j=l.length-1-i) :
  ∃ x y:UInt8,w.cell? ⟨g,i,none⟩=some (.int .u8 (x.toNat:Nat))/\w.cell? ⟨g,j,none⟩=some (.int .u8 (y.toNat:Nat))/\w.frozen? ⟨g,i,none⟩=false/\w.frozen? ⟨g,j,none⟩=false /\
   eC ((w.setCell ⟨g,i,none⟩ (.int .u8 (y.toNat:Nat))).setCell ⟨g,j,none⟩ (.int .u8 (x.toNat:Nat))) base (.slice (some ⟨g,0,none⟩) l.length c) (dI l (i+1)):=by
 have d:i<(dI l i).length:=by rw [cF];omega
 have a:j<(dI l i).length:=by rw [cF];omega
 rw [<- cF l i] at h;obtain ⟨n,o,p⟩:=h.at i d;obtain ⟨q,r,t⟩:=h.at j a;have ex:(dI l i)[i]=l.getD i 0:=by rw [kK,if_neg O]
 have m:(dI l i)[j]=l.getD j 0:=by rw [kK,if_neg O]
 refine ⟨(dI l i)[i],(dI l i)[j],n,q,o,r,?_⟩;have f:=p (dI l i)[j] _ rfl;rw [show (dI l i).length=((dI l i).set i (dI l i)[j]).length from by simp] at f;obtain ⟨_,_,s⟩:=f.at j (by simpa using a);have b:=s (dI l i)[i] _ rfl;rw [show ((dI l i).set i (dI l i)[j]).length=l.length from by simp [cF]] at b;have e:=Ev l i hi;rw [<- k] at e;rw [m,ex] at b ⊢;rw [e] at b;exact b
def TxtR (w:World) (n L:Nat) (k:Nat) (bv av:Value) (wr:World):Prop :=
 ∃ (m:Nat) (acc:List UInt8),eC wr w.heap.size bv acc/\aQ wr av m L/\wI n m acc/\w.grownBy wr none/\m=k
theorem wI.len {n m:Nat} {a:List UInt8} (h:wI n m a):a.length<=Lib.nDigits n:=by
 rw [<- Lib.decDigits_length];by_cases b:m=0
 ·rw [h.2 b];simp
 ·rw [h.1 b];simp
theorem qQ {n L:Nat} (a:0<L) (h:n<4294967296^L):Lib.nDigits n<=10*L:=by
 refine lB O (Nat.lt_of_lt_of_le h ?_);rw [Nat.pow_mul];exact Nat.pow_le_pow_left zD L
theorem Dq {w:World} {v:Value} {n L:Nat} (h:aQ w v n L):n<4294967296^L:=by
 obtain ⟨xs,a,d,b,c⟩:=h;have:=bw a.sm;rw [b] at this;exact Nat.lt_of_lt_of_le this (Nat.pow_le_pow_right zD c)
theorem xk (bx ox:Nat) (z:Int) (L:Nat) (w:World) (h:ay w bx ox z L) (hL:L<=50000000) :
  Calls Tryz.prog 54 #[.pointer (some ⟨bx,ox,none⟩),.int .i64 10] w fun e w'=>e=.returned (.string ⟨(dV z).toArray⟩)/\w.grownBy w' none:=by
 obtain ⟨neg,v,h1,h2,h3,h4⟩:=h;obtain ⟨ao,l,ca,rfl,V,_,hH,hI,_,_⟩:=aE h2;have c0:=h1.c0;have c1:=h1.c1;have hu:∀ W,(binOp .eql 75 (.pointer (some ⟨bx,ox,none⟩)) (.pointer none)).run Tryz.prog W=.ok (.bool false) W:=fun W=>zK
 by_cases hz:z=0
 ·have f:l=0:=V.2 O;subst f hz;clear V h1 h2 h3 h4;go_enter Tryz.func54,Tryz.ntmps54
  go_wp2;go_ret;refine ⟨?_,ae _ _⟩;rw [show dV 0=[48] from by simp [dV,Lib.decDigits_one]];rfl
 ·have f:0<l:=by
   rcases zP l with e | e
   ·have:=V.1 e;omega
   ·exact e
  have hC:((l:Int)==0)=false:=by simp;omega
  obtain ⟨n,hn⟩:=eX z.natAbs;have hD:0<n:=O
  rw [<- hn] at h2;have HB:=ab h1;have HN:=ab h2;have H3:=ab h3;have I:=ab hn;clear V h1 h2 h3 h4 hn;go_enter Tryz.func54,Tryz.ntmps54
  go_wp2_with fail;refine (qj _ n L _ HN O).mono ?_;rintro e w1 ⟨av,rfl,X,a2,a3⟩;obtain ⟨hJ,l1,hK,rfl,hq,_,hx,hy,_,_⟩:=aE X;have A1:=ab X;have A2:=ab a2;have hE:Lib.nDigits n<=10*L:=by
   have hlt:=Dq X;refine qQ ?_ hlt;rcases zP L with e | e
   ·subst e;simp at hlt;omega
   ·exact e
  clear X a2 a3 hq c0 c1;go_wp2;go_loopg [5,6] n (fun k bv av wr=>Hid (TxtR w n L k bv av wr))
  case atStart=>exact ⟨n,[],eC.nil _ _,A1,⟨fun _=>Z,fun e=>O⟩,A2,rfl⟩
  case round =>
   obtain ⟨k,a,r1,r2,r3,r4,rfl⟩:=hrel.out;have hv:=r3.len;obtain ⟨bo,bc,rfl,hA,hB⟩:=r1.shape;obtain ⟨hM,l2,hN,rfl,A,_,hQ,hR,_,_⟩:=aE r2;have F:=ab r1;have R2:=ab r2;have R3:=ab r3;have G:=ab r4;clear r1 r2 r3 r4 hrel;by_cases U:k=0
   ·obtain rfl:l2=0:=A.2 U;subst U;have HD:=ab (R3.2 rfl);clear A;have J:=HB.out.keep0 G;have c0:=J.c0;clear J;by_cases p:neg=true
    ·subst p;have d:=F.out.alloc (Obj.cells #[Value.int IntKind.u8 45] 5);have c:(wr.alloc (Obj.cells #[Value.int IntKind.u8 45] 5)).cell? ⟨wr.heap.size,0,none⟩=some (.int .u8 45):=Z
     have HC:=ab c;have HO:=ab d;have q:w.heap.size<=(wr.alloc (Obj.cells #[Value.int IntKind.u8 45] 5)).heap.size:=by have:=G.out.size;simp;omega
     have B:=ab q;clear c d q;go_wp2_with (at_builtin;refine ij _ rfl _ _ rfl w.heap.size _ a rfl wr.heap.size _ 45 rfl rfl HC HO O B ?_)
     intro hp w3 H N;have o:=ab H;have G3:=ab (CK (aa G (ag (ae _ _) _)) N (fun b e=>(F.fresh b e).1));clear H N;obtain ⟨g,f⟩:=eX (a++[45]);have s:Hid (g.reverse=dV z):=by
      show _=_
      rw [f];rw [List.reverse_append,<- HD,I];have C:z<0:=by simpa using H3.out.symm
      simp [dV,C]
     have t:0<g.length:=by
      have h1:=congrArg List.length s;rw [List.length_reverse] at h1;have h2:=rj z;omega
     have he:g.length<=10*L+1:=by rw [f];simp;omega
     rw [<- f] at o;clear f;obtain ⟨gb,cb,rfl,P,Q,R,S⟩:=o.out.open t;go_wp2;go_loopw [8,9] (fun iv jv w5=>∃ i:Nat,i+i<=g.length+1/\iv=.int .i64 (i:Int)/\jv=.int .i64 ((g.length:Int)-1-i)/\Hid (SwpR w gb cb g i w5)) (fun iv _ _=>g.length-(intOf iv).toNat)
     case atStart=>exact ⟨0,O,rfl,zN,by rw [SwpR,vU];exact ⟨o,G3⟩⟩
     case round =>
      obtain ⟨i,hi,rfl,rfl,m⟩:=hrel;by_cases hlt:i+i+1<g.length
      ·obtain ⟨j,hj⟩:=eX (g.length-1-i);have u:((g.length:Int)-1-i)=(j:Int):=O
       obtain ⟨x,y,x1,y1,x2,y2,T⟩:=m.out.1.swap hlt hj;have ST:=ab T;have D:=ab m.2;have HJ:=ab hj;have hf:i<j:=O
       have hm:j<g.length:=O
       have ho:i<g.length:=O
       rw [u];clear T hj u m o;go_wp2;go_roundw
       case rel =>
        have hj:=HJ.out;exact ⟨i+1,O,zN,zN,ST,ah (ah D _ _ (by simp;omega)) _ _ (by simp;omega)⟩
       case measure=>simp [intOf];omega
      ·have E:=m.out.1.string (by rw [cF];exact t);rw [zA g i O,s] at E;have D:=ab m.2;clear m o;go_wp2;go_ret;exact ⟨rfl,D⟩
    ·obtain rfl:neg=false:=by simpa using p
     clear p;have o:=ab F;have G3:=ab G;have s:Hid (a.reverse=dV z):=by
      show _=_
      rw [<- HD,I];have C:¬ z<0:=by simpa using H3.out.symm
      simp [dV,C]
     have t:0<a.length:=by
      have h1:=congrArg List.length s;rw [List.length_reverse] at h1;have h2:=rj z;omega
     have he:a.length<=10*L+1:=O
     obtain ⟨gb,cb,eb,P,Q,R,S⟩:=o.out.open t;simp only [Value.slice.injEq,true_and] at eb;obtain ⟨rfl,rfl⟩:=eb;have hw:bc=bc:=rfl;go_wp2;go_loopw [8,9] (fun iv jv w5=>∃ i:Nat,i+i<=a.length+1/\iv=.int .i64 (i:Int)/\jv=.int .i64 ((a.length:Int)-1-i)/\Hid (SwpR w gb bc a i w5)) (fun iv _ _=>a.length-(intOf iv).toNat)
     case atStart=>exact ⟨0,O,rfl,zN,by rw [SwpR,vU];exact ⟨o,G3⟩⟩
     case round =>
      obtain ⟨i,hi,rfl,rfl,m⟩:=hrel;by_cases hlt:i+i+1<a.length
      ·obtain ⟨j,hj⟩:=eX (a.length-1-i);have u:((a.length:Int)-1-i)=(j:Int):=O
       obtain ⟨x,y,x1,y1,x2,y2,T⟩:=m.out.1.swap hlt hj;have ST:=ab T;have D:=ab m.2;have HJ:=ab hj;have hf:i<j:=O
       have hm:j<a.length:=O
       have ho:i<a.length:=O
       rw [u];clear T hj u m o;go_wp2;go_roundw
       case rel =>
        have hj:=HJ.out;exact ⟨i+1,O,zN,zN,ST,ah (ah D _ _ (by simp;omega)) _ _ (by simp;omega)⟩
       case measure=>simp [intOf];omega
      ·have E:=m.out.1.string (by rw [cF];exact t);rw [zA a i O,s] at E;have D:=ab m.2;clear m o;go_wp2;go_ret;exact ⟨rfl,D⟩
   ·have hF:0<l2:=by
     rcases zP l2 with e | e
     ·exact absurd (A.1 e) U
     ·exact e
    clear A;go_wp2_with fail;refine (Bl _ k L 10 _ R2 O O O).mono ?_;rintro e Y ⟨v',r,rfl,hr,s1,s2,s3⟩;obtain ⟨hS,l3,hT,rfl,hs,_,hW,hX,_,_⟩:=aE s1;have K:r<10:=O
    have HR:=ab hr;have S1:=ab s1;have S2:=ab s2;have S3:=ab s3;clear hr s1 s2 s3 hs;have hG:(r:Int)<10:=O
    have M:(48+(r:Int))=((dgB r).toNat:Int):=byte_of r K;have c:(Y.alloc (Obj.cells #[Value.int IntKind.u8 (48+(r:Int))] 5)).cell? ⟨Y.heap.size,0,none⟩=some (.int .u8 (48+(r:Int))):=Z
    have d:=(F.keep0 S2).alloc (Obj.cells #[Value.int IntKind.u8 (48+(r:Int))] 5);have q:w.heap.size<=(Y.alloc (Obj.cells #[Value.int IntKind.u8 (48+(r:Int))] 5)).heap.size:=by have:=G.out.size;have:=S2.out.size;simp;omega
    have HU:=ab M;have HC:=ab c;have HO:=ab d;have B:=ab q;clear M c d q;go_wp2_with (at_builtin;refine ij _ rfl _ _ rfl w.heap.size _ a rfl Y.heap.size _ (dgB r) HU rfl HC HO O B ?_)
    intro hp w3 H N;obtain ⟨hY,ka,rfl,_,_⟩:=H.shape;have o:=ab H;have O2:=ab N;clear H N;go_wp2;go_roundg (k / 10)
    case measure=>omega
    case rel =>
     refine ⟨k / 10,_,o,?_,?_,?_,rfl⟩
     ·refine (S1.keep0 (ag (ae _ _) _)).keep O2 ?_;intro j e h2;have h3:=S3.out j h2;have h4:=(F.fresh j e).2;omega
     ·rw [HR];exact R3.step U
     ·exact CK (aa G (aa S2 (ag (ae _ _) _))) O2 (fun b e=>(F.fresh b e).1)
theorem rg (f g h i:Nat) (x y L M:Nat) (w:World) (l:ay w f g (x:Int) L) (m:ay w h i (y:Int) M) :
  Calls Tryz.prog 52 #[.pointer (some ⟨f,g,none⟩),.pointer (some ⟨h,i,none⟩)] w fun e u=>e=.returned (.int .i64 (gG x y))/\w.grownBy u none:=by
 obtain ⟨q,A,c,a,j,r⟩:=l;obtain ⟨s,vy,d,b,k,t⟩:=m;have ex:q=false:=by rw [j];exact decide_eq_false O
 have n:s=false:=by rw [k];exact decide_eq_false O
 subst ex n;rw [Int.natAbs_natCast] at a b;obtain ⟨B,C,D,rfl,_,_,_,_,_,_⟩:=aE a;obtain ⟨E,F,G,rfl,_,_,_,_,_,_⟩:=aE b;have o:=ab a;have p:=ab b;have c0:=c.c0;have c1:=c.c1;have v:=d.c0;have z:=d.c1;clear c a j r d b k t;go_enter Tryz.func52,Tryz.ntmps52
 go_wp2;go_quiet (fail)
 go_wp2;go_region_with (go_at_call 90;refine (yt _ _ x y L M _ (o.keep0 (by first | exact ae _ _ | (refine aj ?_ _;first | exact ae _ _ | exact aj (ae _ _) _))) (p.keep0 (by first | exact ae _ _ | (refine aj ?_ _;first | exact ae _ _ | exact aj (ae _ _) _)))).mono ?_;rintro e H ⟨rfl,I,rfl⟩)
 all_goals
  go_wp2;go_ret;exact ⟨rfl,by repeat (first | exact ae _ _ | refine aj ?_ _)⟩
theorem ord_one (n:Nat) (h:0<n):(gG n 1==0)=decide (n=1):=by
 unfold gG;by_cases e:n=1
 ·subst e;rfl
 ·rw [if_neg O,if_neg e];simp [e]
theorem CP (b:Nat) (q:Rat) (L:Nat) (w:World) (h:RQ w b q L) :
  Calls Tryz.prog 27 #[.pointer (some ⟨b,0,none⟩)] w fun e n=>e=.returned (.bool (decide (q.den=1)))/\w.grownBy n none:=by
 have H:=ab h;clear h;go_enter Tryz.func27,Tryz.ntmps27
 go_wp2_with fail;refine (sD b _ _ L _ H).mono ?_;rintro e w1 ⟨rfl,a⟩;rw [a];clear a;go_wp2_with fail;refine (dF 1 _ O O).mono ?_;rintro e o ⟨rfl,f,g,m⟩;have d:=ab f;have j:=ab g;clear f g m;go_wp2_with fail;refine (rg b 2 w.heap.size 0 q.den 1 L 2 _ (H.2.1.keep0 d) j).mono ?_;rintro e p ⟨rfl,i⟩;have k:=ab (aa d i);have c:=ord_one q.den q.den_pos;clear i;generalize gG q.den 1=oo at c ⊢;have l:=ab c;clear c;go_wp2;go_ret;refine ⟨?_,k⟩;rw [<- l];rfl
theorem Ci (b:Nat) (q:Rat) (L:Nat) (w:World) (h:RQ w b q L) (m:L<=400000000) :
  Calls Tryz.prog 30 #[.pointer (some ⟨b,0,none⟩)] w fun e j=>∃ c,e=.returned (.pointer (some ⟨c,0,none⟩))/\ay j c 0 (q.den:Int) L/\w.grownBy j none:=by
 have H:=ab h;clear h;go_enter Tryz.func30,Tryz.ntmps30
 go_wp2_with fail;have d:=ag (ae w none) (.cells #[.bool false,.slice none 0 0] 106);have f:=ab (H.keep0 d);refine (sD b _ _ L _ f).mono ?_;rintro e w1 ⟨rfl,a⟩;rw [a];clear a;go_wp2_with fail;refine (pY w.heap.size 0 b 2 false (.slice none 0 0) (q.den:Int) L _ (fH w) f.2.1 O).mono ?_;rintro e n ⟨rfl,g,i,l⟩;have G:=ab (cw d g zL);have k:=ab i;clear g i l d;go_wp2;go_ret;exact ⟨_,rfl,k,G⟩
theorem gH (b o:Nat) (z:Int) (L:Nat) (w:World) (h:ay w b o z L) (c:L<=50000000) :
  Calls Tryz.prog 29 #[.pointer (some ⟨b,o,none⟩)] w fun e d=>e=.returned (.string ⟨(dV z).toArray⟩)/\w.grownBy d none:=by
 have H:=ab h;clear h;go_enter Tryz.func29,Tryz.ntmps29
 go_wp2_with fail;refine (xk b o z L _ H c).mono ?_;rintro e w1 ⟨rfl,a⟩;have G:=ab a;clear a;go_wp2;go_ret;exact ⟨rfl,G⟩
theorem Dp (b:Nat) (q:Rat) (L:Nat) (w:World) (h:RQ w b q L) :
  Calls Tryz.prog 28 #[.pointer (some ⟨b,0,none⟩)] w fun e c=>e=.returned (.pointer (some ⟨b,0,none⟩))/\c=w:=by
 obtain ⟨d,v1,a,_⟩:=h.1;have c0:=a.c0;clear a h;go_enter Tryz.func28,Tryz.ntmps28
 go_wp2;go_ret;exact ⟨rfl,rfl⟩
theorem AB (n:Nat):dV (n:Int)=Lib.decDigits n:=by
 unfold dV;rw [if_neg O,Int.natAbs_natCast]
theorem vh (q:Rat):bQ q=dV q.num++(if q.den=1 then [] else [47]++dV (q.den:Int)):=by
 rw [AB];unfold bQ dV rB rN;by_cases h:q.num<0
 ·simp [h]
 ·simp [h]
theorem mO {w:World} {b o:Nat} {z:Int} {L:Nat} (h:ay w b o z L) (d:L<=50000000):(dV z).length<=500000002:=by
 obtain ⟨_,_,_,c,_⟩:=h;have a:=Dq c;have f:(Lib.decDigits z.natAbs).length<=500000001:=by
  rw [Lib.decDigits_length];rcases zP L with e | e
  ·subst e;have:z.natAbs=0:=by simpa using a
   rw [this,Lib.nDigits_small zD];omega
  ·have:=qQ e a;omega
 unfold dV;split
 ·simp;omega
 ·omega
theorem rT_at (b:Nat) (q:Rat) (L:Nat) (w:World) (h:RQ w b q L) (r:L<=50000000) :
  Calls Tryz.prog 11 #[.pointer (some ⟨b,0,none⟩)] w fun e G=>e=.returned (.string ⟨(bQ q).toArray⟩)/\w.grownBy G none:=by
 have H:=ab h;have m:=mO h.1 r;have n:=mO h.2.1 r;obtain ⟨A,k⟩:=eX (dV q.num);obtain ⟨B,l⟩:=eX (dV (q.den:Int));have j:Hid (bQ q=A++(if q.den=1 then [] else [47]++B)):=by show _=_;rw [k,l];exact vh q
 rw [<- k] at m;rw [<- l] at n;have s:=ab k;have x:=ab l;clear h k l;go_enter Tryz.func11,Tryz.ntmps11
 go_wp2_with fail;refine (CP b q L _ H).mono ?_;rintro e w1 ⟨rfl,p⟩;have t:=ab p;have i:=ab (H.keep0 p);clear p;by_cases hd:q.den=1
 ·rw [decide_eq_true hd];have a:=j.out;rw [if_pos hd,List.append_nil] at a;have f:=ab a;clear a j hd;go_wp2_with fail;refine (Dp b q L _ i).mono ?_;rintro e E ⟨rfl,d⟩;rw [d];clear d;go_wp2_with fail;refine (gH b 0 q.num L _ i.1 O).mono ?_;rintro e F ⟨rfl,g⟩;have o:=ab (aa t g);clear g;rw [<- s];go_wp2;go_ret;rw [f];exact ⟨rfl,o⟩
 ·rw [decide_eq_false hd];have a:=j.out;rw [if_neg hd] at a;have f:=ab a;clear a j hd;go_wp2_with fail;refine (Dp b q L _ i).mono ?_;rintro e E ⟨rfl,d⟩;rw [d];clear d;go_wp2_with fail;refine (gH b 0 q.num L _ i.1 O).mono ?_;rintro e F ⟨rfl,g⟩;have o:=ab (aa t g);have y:=ab (i.keep0 g);clear g;rw [<- s];go_wp2_with fail;refine (Ci b q L _ y O).mono ?_;rintro e I ⟨c,rfl,c1,u⟩;have z:=ab c1;have C:=ab (aa o u);clear c1 u;go_wp2_with fail;refine (gH c 0 (q.den:Int) L _ z O).mono ?_;rintro e J ⟨rfl,v⟩;have D:=ab (aa C v);clear v;rw [<- x];go_wp2;go_ret;rw [f];refine ⟨?_,D⟩;first | rfl | (simp;apply ByteArray.ext;simp [ByteArray.data_append])
theorem AA (b L:Nat) (w:World) (h:oN w b L) :
  Calls Tryz.prog 27 #[.pointer (some ⟨b,0,none⟩)] w fun e r=>e=.returned (.bool true)/\w.grownBy r none:=by
 have H:=ab h;clear h;have a:(gG 1 1==0)=true:=by rw [sX];rfl
 go_enter Tryz.func27,Tryz.ntmps27
 go_wp2_with fail;refine (yw b L _ H).mono ?_;rintro e w1 ⟨rfl,d,f,o⟩;have k:=ab d;have l:Hid (ay w1 w.heap.size 0 ((1:Nat):Int) 2):=f;clear d f o;go_wp2_with fail;refine (dF 1 _ O O).mono ?_;rintro e p ⟨rfl,g,i,q⟩;have c:=ab g;have m:Hid (ay p w1.heap.size 0 ((1:Nat):Int) 2):=i;clear g i q;go_wp2_with fail;refine (rg w.heap.size 0 w1.heap.size 0 1 1 2 2 _ (l.keep0 c) m).mono ?_;rintro e s ⟨rfl,j⟩;have n:=ab (aa k (aa c j));clear j;generalize gG 1 1=oo at a ⊢;go_wp2;go_ret;exact ⟨by first | rfl | rw [a],n⟩
theorem AX (b L:Nat) (w:World) (h:oN w b L) :
  Calls Tryz.prog 28 #[.pointer (some ⟨b,0,none⟩)] w fun e c=>e=.returned (.pointer (some ⟨b,0,none⟩))/\c=w:=by
 obtain ⟨d,v1,a,_⟩:=h.1;have c0:=a.c0;clear a h;go_enter Tryz.func28,Tryz.ntmps28
 go_wp2;go_ret;exact ⟨rfl,rfl⟩
theorem rT_nil (b L:Nat) (w:World) (h:oN w b L) (j:L<=50000000) :
  Calls Tryz.prog 11 #[.pointer (some ⟨b,0,none⟩)] w fun e o=>e=.returned (.string ⟨(bQ 0).toArray⟩)/\w.grownBy o none:=by
 have H:=ab h;clear h;have k:Hid (bQ 0=dV 0):=by show _=_;rw [vh,if_pos (by rfl),List.append_nil];rfl
 rw [k];have c:=mO H.1 j;obtain ⟨A,d⟩:=eX (dV 0);rw [<- d] at c ⊢;have l:=ab d;clear d;go_enter Tryz.func11,Tryz.ntmps11
 go_wp2_with fail;refine (AA b L _ H).mono ?_;rintro e w1 ⟨rfl,f⟩;have m:=ab f;have g:=ab (H.keep0 f);clear f;go_wp2_with fail;refine (AX b L _ g).mono ?_;rintro e p ⟨rfl,a⟩;rw [a];clear a;go_wp2_with fail;refine (gH b 0 0 L _ g.1 O).mono ?_;rintro e q ⟨rfl,i⟩;have n:=ab (aa m i);clear i;rw [<- l];go_wp2;go_ret;exact ⟨rfl,n⟩
end Go.Proofs.YtkbmbmdemajoaaaGreatDoor
