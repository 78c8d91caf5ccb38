/- Contracts. -/
import Derived.Test.YtkbmbmdemajoaaaGreatDoorXPx
import Derived.Test.YtkbmbmdemajoaaaGreatDoorXPf
namespace Go.Proofs.YtkbmbmdemajoaaaGreatDoor
open Go.RowKit
set_option linter.unusedVariables false
set_option linter.unusedSimpArgs false
set_option maxHeartbeats 8000000
set_option maxRecDepth 10000
variable {w:World}
theorem mul_at (b off h o i p:Nat) (f:Bool) (v0:Value) (x y:Int) (L M:Nat) (w:World) (t:gh w b off f v0) (G:ay w h o x L) (H:ay w i p y M) (U:L+M<=10000000000000) (j:h≠b) (k:i≠b) :
  Calls Tryz.prog 125 #[.pointer (some ⟨b,off,none⟩),.pointer (some ⟨h,o,none⟩),.pointer (some ⟨i,p,none⟩)] w fun e g=>e=.returned (.pointer (some ⟨b,off,none⟩))/\fS w g b off/\ay g b off (x*y) (L+M)/\dQ w g b off:=by
 have I:=ab t;have hb:=t.lt;obtain ⟨neg,v,s,C,D,Q⟩:=G;obtain ⟨a,u,d,l,m,B⟩:=H;have q:=ab s;have c0:=s.c0;have c1:=s.c1;have r:=ab d;have V:=d.c0;have W:=d.c1;have J:=ab C;have K:=ab D;have z:=ab l;have A:=ab m;clear t s C D Q d l m B;go_enter Tryz.func125,Tryz.ntmps125
 go_wp2;go_region_held3 (fun g=>g.cell? ⟨h,o,none⟩=some (.bool neg)/\g.cell? ⟨h,o+1,none⟩=some v/\g.cell? ⟨i,p,none⟩=some (.bool a)/\g.cell? ⟨i,p+1,none⟩=some u) (go_keep)
  (first | (go_at_call 138;refine (yU _ _ _ _ L M _ (J.keep0 (az _)) (z.keep0 (az _)) O).mono ?_;rintro e w1 ⟨R,rfl,S,c,E⟩;have q0:=(q.keep0 (aa (az _) c)).c0;have N:=(q.keep0 (aa (az _) c)).c1;have q1:=(r.keep0 (aa (az _) c)).c0;have P:=(r.keep0 (aa (az _) c)).c1) | (go_at_call 94;refine (fW b off f v0 (neg != a) R _ (L+M) w1 (I.keep0 (aa (az _) c)) S (fV (w1:=w) E hb)).mono ?_;rintro e w2 ⟨rfl,n,F,T⟩;have X:=((q.keep0 (aa (az _) c)).keep n (.inl j)).c0;have r1:=((q.keep0 (aa (az _) c)).keep n (.inl j)).c1;have r2:=((r.keep0 (aa (az _) c)).keep n (.inl k)).c0;have Y:=((r.keep0 (aa (az _) c)).keep n (.inl k)).c1))
 all_goals go_wp2
 all_goals go_ret
 all_goals rw [sg_mul x y neg a K A] at F
 all_goals exact ⟨rfl,(fS.of_gr (aa (az _) c) b off hb).trans n,F,dQ.of T E zL⟩
structure bA (w w':World) (b:Nat):Prop where
 gr:w.grownBy w' (some b)
 rest:b<w.heap.size->∀ o,4<=o->w'.cell? ⟨b,o,none⟩=w.cell? ⟨b,o,none⟩
theorem bA.of_put {a:World} {b off:Nat} (h:fS w a b off) (ho:off<=2:=by decide):bA w a b:=⟨h.gr,fun _ o c=>h.rest o O O⟩
theorem bA.of_gr {a:World} {b:Nat} (h:w.grownBy a none):bA w a b:=⟨⟨h.os,h.tape,h.output,h.size,fun k c _=>h.block k c Z⟩,fun hb o _=>World.cell?_of_block (h.block b hb Z)⟩
theorem bA.trans {w1 a:World} {b:Nat} (h:bA w w1 b) (k:bA w1 a b):bA w a b:=⟨aw h.gr k.gr (fun _ _ e=>e) (fun _ _ e=>e),fun hb o c=>(k.rest (Nat.lt_of_lt_of_le hb h.gr.size) o c).trans (h.rest hb o c)⟩
theorem aE {v:Value} {n L:Nat} (h:aQ w v n L):∃ ao l ca,v=.slice ao l ca/\(l=0↔n=0)/\l<=L/\l<=ca/\ca<=9223372036854775807/\(l=1->∃ b off,ao=some ⟨b,off,none⟩/\w.cell? ⟨b,off,none⟩=some (.int .u32 (n:Nat)))/\(n=1->l=1):=by
 obtain ⟨xs,g,f,c,i⟩:=h;obtain ⟨ao,ca,rfl,h1,h2,h3⟩:=g.open;refine ⟨ao,xs.length,ca,rfl,?_,i,h1,by unfold maxLen at h2;omega,?_,?_⟩
 ·constructor
  ·intro h;have:xs=[]:=List.eq_nil_of_length_eq_zero h;rw [this] at c;simpa [ai] using c.symm
  ·intro h;rcases zP xs.length with a | a
   ·exact a
   ·have:=jh f (by intro e;rw [e] at a;simp at a);have j:0<4294967296^(xs.length-1):=Nat.pow_pos zD;omega
 ·intro h;obtain ⟨b,off,e,hb,hc⟩:=h3 0 O;refine ⟨b,off,e,?_⟩;obtain ⟨x,rfl⟩:=List.length_eq_one_iff.1 h;simp only [Nat.add_zero,List.getElem_cons_zero] at hc;rw [hc,<- c];simp [ai]
 ·intro h;have d:xs≠[]:=by intro e;rw [e] at c;simp [ai] at c;omega
  have h1:=jh f d;rw [c,h] at h1;have h2:xs.length-1=0:=by
   rcases zP (xs.length-1) with a | a
   ·exact a
   ·have:4294967296^1<=4294967296^(xs.length-1):=Nat.pow_le_pow_right zD a;omega
  have h3:0<xs.length:=by
   cases xs with
   | nil=>exact absurd rfl d
   | cons x r=>simp
  omega
theorem yE (x:Int) (y G:Nat) (d:G=Nat.gcd x.natAbs y) (h:x≠0) (hy:0<y):(x / (G:Nat)).natAbs=x.natAbs / G/\decide (x / (G:Nat)<0)=decide (x<0):=by
 have f:0<G:=by rw [d];exact Nat.gcd_pos_of_pos_right _ hy
 obtain ⟨k,c⟩:G∣x.natAbs:=by rw [d];exact Nat.gcd_dvd_left _ _
 have g:0<k:=by
  rcases zP k with e | e
  ·rw [e,Nat.mul_zero] at c;omega
  ·exact e
 have b:(G:Int)≠0:=O
 rw [c,Nat.mul_div_cancel_left k f];by_cases a:x<0
 ·have e:x=(G:Int)*(-(k:Int)):=by
   have:(x.natAbs:Int)=(G:Int)*(k:Int):=by rw [c,Int.natCast_mul]
   rw [Int.mul_neg];omega
  rw [e,Int.mul_ediv_cancel_left _ b];refine ⟨O,?_⟩;rw [<- e,decide_eq_true a];exact decide_eq_true O
 ·have e:x=(G:Int)*(k:Int):=by
   have:(x.natAbs:Int)=(G:Int)*(k:Int):=by rw [c,Int.natCast_mul]
   omega
  rw [e,Int.mul_ediv_cancel_left _ b];refine ⟨O,?_⟩;rw [<- e,decide_eq_false a];exact decide_eq_false O
theorem ma (b:Nat) (x:Int) (y G L M:Nat) (w w1 j a:World) (l:Bool) {o n:Value} (p q:Value) (r:G=Nat.gcd x.natAbs y) (s:x≠0) (hy:0<y) (m:l=decide (x<0))
  (g1:w.grownBy w1 none) (g2:w1.grownBy j none) (g3:j.grownBy a none) (t1:gh a b 0 l o) (t2:gh a b 2 false n) (n1:aQ j p (x.natAbs / G) (L+2)) (n2:aQ a q (y / G) (M+2)) (f1:bn w1 p) (f2:bn j q) (hb:b<w.heap.size) :
  bA w ((a.setCell ⟨b,1,none⟩ p).setCell ⟨b,3,none⟩ q) b/\ay ((a.setCell ⟨b,1,none⟩ p).setCell ⟨b,3,none⟩ q) b 0 (x / (G:Nat)) (L+2)/\ay ((a.setCell ⟨b,1,none⟩ p).setCell ⟨b,3,none⟩ q) b 2 (y / G:Nat) (M+2):=by
 obtain ⟨u,v⟩:=yE x y G r s hy;have g:fS a (a.setCell ⟨b,1,none⟩ p) b 0:=fS.set _ (.inr rfl);have i:fS (a.setCell ⟨b,1,none⟩ p) ((a.setCell ⟨b,1,none⟩ p).setCell ⟨b,3,none⟩ q) b 2:=fS.set _ (.inr rfl);have d:ar p≠some b:=fun e=>by have:=f1 b e;have:=g1.size;omega
 have f:ar q≠some b:=fun e=>by have:=f2 b e;have:=g1.size;have:=g2.size;omega
 have t:w.grownBy a none:=aa (aa g1 g2) g3;refine ⟨(bA.of_gr t).trans ((bA.of_put g).trans (bA.of_put i)),?_,?_⟩
 ·refine ⟨l,p,?_,?_,by rw [m,v],d⟩
  ·have c1:(a.setCell ⟨b,1,none⟩ p).cell? ⟨b,1,none⟩=some p:=World.cell?_setCell_same _ _ _ t1.c1;have c0:(a.setCell ⟨b,1,none⟩ p).cell? ⟨b,0,none⟩=some (.bool l):=by
    rw [World.cell?_setCell_other _ _ _ _ Z];exact t1.c0
   exact gh.keep ⟨c0,c1,(g.fr 0).trans t1.f0,(g.fr 1).trans t1.f1⟩ i (.inr (.inl O))
  ·rw [u];exact ((n1.keep0 g3).keep g.gr (fun k e h=>by cases e;exact d h)).keep i.gr (fun k e h=>by cases e;exact d h)
 ·refine ⟨false,q,?_,?_,(decide_eq_false (Int.not_lt.2 (Int.natCast_nonneg _))).symm,f⟩
  ·have c:gh (a.setCell ⟨b,1,none⟩ p) b 2 false n:=t2.keep g (.inr (.inr O));refine ⟨?_,World.cell?_setCell_same _ _ _ c.c1,(i.fr 2).trans c.f0,(i.fr 3).trans c.f1⟩;rw [World.cell?_setCell_other _ _ _ _ Z];exact c.c0
  ·rw [Int.natAbs_natCast];exact (n2.keep g.gr (fun k e h=>by cases e;exact f h)).keep i.gr (fun k e h=>by cases e;exact f h)
theorem Dn (b:Nat) (x:Int) (y L M:Nat) (w:World) (hA:ay w b 0 x L) (hB:ay w b 2 (y:Int) M) (hx:x≠0) (hy:0<y) (hL:L<=4000000000000) (hM:M<=4000000000000) :
  Calls Tryz.prog 140 #[.pointer (some ⟨b,0,none⟩)] w fun e F=>e=.returned (.pointer (some ⟨b,0,none⟩))/\bA w F b/\ay F b 0 (x / (Nat.gcd x.natAbs y:Nat)) (L+2)/\ay F b 2 (y / Nat.gcd x.natAbs y:Nat) (M+2):=by
 have HA:=ab hA;have HB:=ab hB;obtain ⟨na,va,a1,a2,a3,a4⟩:=hA;obtain ⟨nb,vb,b1,b2,b3,b4⟩:=hB;rw [Int.natAbs_natCast] at b2;have he:nb=false:=by rw [b3];simp
 subst he;have c0:=a1.c0;have c1:=a1.c1;have d0:=b1.c0;have d1:=b1.c1;obtain ⟨ao,la,ca,rfl,z1,z2,z3,z4,z5,z6⟩:=aE a2;obtain ⟨bo,lb,cb,rfl,y1,y2,y3,y4,y5,W⟩:=aE b2;have ho:((la:Int)==0)=false:=zB O;have hp:((lb:Int)==0)=false:=zB O;have Q:=ab a1;have Y:=ab a2;have A3:=ab a3;have A4:=ab a4;have B1:=ab b1;have B2:=ab b2;have B4:=ab b4;clear a1 a2 a3 a4 b1 b2 b3 b4 z1 z5 z6 y1;by_cases hf:y=1
 ·subst hf;have S:((lb:Int)==1)=true:=beq_iff_eq.2 (by have:=W rfl;omega);obtain ⟨i,c,rfl,hl⟩:=y5 (W rfl);have T:=W rfl;clear y5 W;go_enter Tryz.func140,Tryz.ntmps140
  go_wp2;go_ret;refine ⟨rfl,bA.of_gr (ae _ _),?_,?_⟩
  ·rw [Nat.gcd_one_right];simpa using HA.out.mono O
  ·rw [Nat.gcd_one_right];simpa using HB.out.mono O
 ·have U:Hid (0<x.natAbs):=by show 0<x.natAbs;omega
  have hj:∃ Gv:Nat,Gv=Nat.gcd x.natAbs y:=⟨_,rfl⟩;obtain ⟨G,hG⟩:=hj;rw [<- hG];have R:=ab hG;clear hG;have hk:((lb:Int)==1)=false∨(((lb:Int)==1)=true/\∃ i c,bo=some ⟨i,c,none⟩/\w.cell? ⟨i,c,none⟩=some (.int .u32 (y:Nat))/\(((y:Nat):Int)==1)=false/\1<=lb):=by
   by_cases h:lb=1
   ·obtain ⟨i,c,e1,e2⟩:=y5 h;exact .inr ⟨beq_iff_eq.2 O,i,c,e1,e2,zB O,O⟩
   ·exact .inl (zB O)
  clear y5 W;rcases hk with S | ⟨S,i,c,rfl,hl,hm,T⟩
  ·skip;go_enter Tryz.func140,Tryz.ntmps140
   go_wp2;go_region_held3 (fun F=>F.cell? ⟨b,1,none⟩=some (.slice ao la ca)/\F.cell? ⟨b,3,none⟩=some (.slice bo lb cb)) (go_keep)
    (first | (go_at_call 170;refine (jm _ _ _ _ L M _ (Y.keep0 (az _)) (B2.keep0 (az _)) U O O).mono ?_;rintro e w1 ⟨g,rfl,C,D⟩;have q1:=(Q.keep0 (aa (az _) D)).c1;have q3:=(B1.keep0 (aa (az _) D)).c1))
   have k:=aa (az _) D;rw [<- R] at C;have n:0<G:=by rw [R];exact Nat.gcd_pos_of_pos_right _ hy
   obtain ⟨go,l,cg,rfl,X,m2,m3,m4,E,J⟩:=aE C;have e1:=Q.out.keep0 k;have e2:=B1.out.keep0 k;have f1:=e1.f1;have f3:=e2.f1;have E1:=ab e1;have E2:=ab e2;have V:=ab C;have z:=ab k;have N1:=ab (Y.keep0 k);have N2:=ab (B2.keep0 k);clear C D k e1 e2 c0 c1 d0 d1;by_cases f:G=1
   ·have o:=J f;have r:((l:Int)==1)=true:=beq_iff_eq.2 O;obtain ⟨m,a,rfl,K⟩:=E o;have H:(((G:Nat):Int)==1)=true:=beq_iff_eq.2 O;have s:=ab f;have t:1<=l:=O
    clear X E J o f;go_wp2;go_ret;refine ⟨rfl,bA.of_gr z,?_,?_⟩
    ·rw [s];simpa using (HA.keep0 z).mono O
    ·rw [s];simpa using (HB.keep0 z).mono O
   ·have u:((l:Int)==1)=false∨(((l:Int)==1)=true/\∃ m a,go=some ⟨m,a,none⟩/\w1.cell? ⟨m,a,none⟩=some (.int .u32 (G:Nat))/\(((G:Nat):Int)==1)=false/\1<=l):=by
     by_cases h:l=1
     ·obtain ⟨m,a,e1,e2⟩:=E h;exact .inr ⟨beq_iff_eq.2 O,m,a,e1,e2,zB O,O⟩
     ·exact .inl (zB O)
    clear X E J;rcases u with r | ⟨r,m,a,rfl,K,H,t⟩
    all_goals
     go_wp2_with fail;refine (fL _ _ _ _ L (max L M+2) _ N1 V n O O).mono ?_;rintro e w2 ⟨p,r1,rfl,j,N,d,v,P⟩;obtain ⟨po,lp,cp,rfl,_,_,_,_,_,_⟩:=aE j;have u1:=E1.out.keep0 d;have u2:=E2.out.keep0 d;have s1:=u1.c1;have s2:=u2.c1;have s3:=u1.f1;have s4:=u2.f1;have P1:=ab j;have I:=ab d;have P4:=ab v;clear j N d v P q1 q3 f1 f3;go_wp2_with fail;refine (fL _ _ _ _ M (max L M+2) _ (N2.keep0 I) (V.keep0 I) n O O).mono ?_;rintro e w3 ⟨q,r2,rfl,j,N,d,v,P⟩;obtain ⟨qo,lq,cq,rfl,_,_,_,_,_,_⟩:=aE j;have A:=u1.keep0 d;have B:=u2.keep0 d;have v1:=A.c1;have v2:=B.c1;have v3:=A.f1;have v4:=B.f1;have Q1:=ab j;have Q3:=ab d;have Q4:=ab v;have T1:=ab A;have T2:=ab B;clear j N d v P s1 s2 s3 s4 u1 u2 A B;go_wp2;go_ret;exact ⟨rfl,ma b x y G L M w w1 w2 w3 na (.slice po lp cp) (.slice qo lq cq) R hx hy A3 z I Q3 T1 T2 P1 Q1 P4 Q4 (Q.lt)⟩
  ·skip;go_enter Tryz.func140,Tryz.ntmps140
   go_wp2;go_region_held3 (fun F=>F.cell? ⟨b,1,none⟩=some (.slice ao la ca)/\F.cell? ⟨b,3,none⟩=some (.slice (some ⟨i,c,none⟩) lb cb)) (go_keep)
    (first | (go_at_call 170;refine (jm _ _ _ _ L M _ (Y.keep0 (az _)) (B2.keep0 (az _)) U O O).mono ?_;rintro e w1 ⟨g,rfl,C,D⟩;have q1:=(Q.keep0 (aa (az _) D)).c1;have q3:=(B1.keep0 (aa (az _) D)).c1))
   have k:=aa (az _) D;rw [<- R] at C;have n:0<G:=by rw [R];exact Nat.gcd_pos_of_pos_right _ hy
   obtain ⟨go,l,cg,rfl,X,m2,m3,m4,E,J⟩:=aE C;have e1:=Q.out.keep0 k;have e2:=B1.out.keep0 k;have f1:=e1.f1;have f3:=e2.f1;have E1:=ab e1;have E2:=ab e2;have V:=ab C;have z:=ab k;have N1:=ab (Y.keep0 k);have N2:=ab (B2.keep0 k);clear C D k e1 e2 c0 c1 d0 d1;by_cases f:G=1
   ·have o:=J f;have r:((l:Int)==1)=true:=beq_iff_eq.2 O;obtain ⟨m,a,rfl,K⟩:=E o;have H:(((G:Nat):Int)==1)=true:=beq_iff_eq.2 O;have s:=ab f;have t:1<=l:=O
    clear X E J o f;go_wp2;go_ret;refine ⟨rfl,bA.of_gr z,?_,?_⟩
    ·rw [s];simpa using (HA.keep0 z).mono O
    ·rw [s];simpa using (HB.keep0 z).mono O
   ·have u:((l:Int)==1)=false∨(((l:Int)==1)=true/\∃ m a,go=some ⟨m,a,none⟩/\w1.cell? ⟨m,a,none⟩=some (.int .u32 (G:Nat))/\(((G:Nat):Int)==1)=false/\1<=l):=by
     by_cases h:l=1
     ·obtain ⟨m,a,e1,e2⟩:=E h;exact .inr ⟨beq_iff_eq.2 O,m,a,e1,e2,zB O,O⟩
     ·exact .inl (zB O)
    clear X E J;rcases u with r | ⟨r,m,a,rfl,K,H,t⟩
    all_goals
     go_wp2_with fail;refine (fL _ _ _ _ L (max L M+2) _ N1 V n O O).mono ?_;rintro e w2 ⟨p,r1,rfl,j,N,d,v,P⟩;obtain ⟨po,lp,cp,rfl,_,_,_,_,_,_⟩:=aE j;have u1:=E1.out.keep0 d;have u2:=E2.out.keep0 d;have s1:=u1.c1;have s2:=u2.c1;have s3:=u1.f1;have s4:=u2.f1;have P1:=ab j;have I:=ab d;have P4:=ab v;clear j N d v P q1 q3 f1 f3;go_wp2_with fail;refine (fL _ _ _ _ M (max L M+2) _ (N2.keep0 I) (V.keep0 I) n O O).mono ?_;rintro e w3 ⟨q,r2,rfl,j,N,d,v,P⟩;obtain ⟨qo,lq,cq,rfl,_,_,_,_,_,_⟩:=aE j;have A:=u1.keep0 d;have B:=u2.keep0 d;have v1:=A.c1;have v2:=B.c1;have v3:=A.f1;have v4:=B.f1;have Q1:=ab j;have Q3:=ab d;have Q4:=ab v;have T1:=ab A;have T2:=ab B;clear j N d v P s1 s2 s3 s4 u1 u2 A B;go_wp2;go_ret;exact ⟨rfl,ma b x y G L M w w1 w2 w3 na (.slice po lp cp) (.slice qo lq cq) R hx hy A3 z I Q3 T1 T2 P1 Q1 P4 Q4 (Q.lt)⟩
theorem AW (b:Nat) (y L M:Nat) (w:World) (l:ay w b 0 0 L) (u:ay w b 2 (y:Int) M) (hy:0<y) :
  Calls Tryz.prog 140 #[.pointer (some ⟨b,0,none⟩)] w fun e j=>e=.returned (.pointer (some ⟨b,0,none⟩))/\bA w j b/\ay j b 0 0 L/\ay j b 2 1 2:=by
 have S:=ab l;obtain ⟨E,V,a,g,n,o⟩:=l;obtain ⟨F,W,c,i,p,G⟩:=u;rw [Int.natAbs_natCast] at i;have d:F=false:=by rw [p];simp
 subst d;have c0:=a.c0;have c1:=a.c1;have T:=c.c0;have U:=c.c1;obtain ⟨H,q,I,rfl,r,X,Y,z4,J,K⟩:=aE g;obtain ⟨bo,lb,N,rfl,P,y2,y3,y4,Q,R⟩:=aE i;have v:((q:Int)==0)=true:=beq_iff_eq.2 (by have:=r.2 rfl;omega);have x:((lb:Int)==0)=false:=zB O;have z:=ab a;have A:=ab g;have m:=ab o;have B:=ab n;have C:=ab c;clear a g n o c i p G r J K P Q R;go_enter Tryz.func140,Tryz.ntmps140
 go_wp2_with fail;refine (ki b 2 false (.slice bo lb N) 1 _ C O O).mono ?_;rintro e w1 ⟨rfl,s,t,_⟩;have f:=ab s;have D:=ab t;clear s t;go_wp2;go_ret;refine ⟨rfl,bA.of_put f,?_,D⟩;exact ⟨E,.slice H q I,z.keep f (.inr (.inl O)),A.keep f.gr (fun k e h=>by cases e;exact m h),B,m⟩
def bJ (w:World) (b:Nat) (x:Int) (y L:Nat):Prop:=ay w b 0 x L/\ay w b 2 (y:Int) L/\0<y/\Nat.gcd x.natAbs y=1
def ft (x:Int) (y:Nat):Int:=x / (Nat.gcd x.natAbs y:Nat)
def fj (x:Int) (y:Nat):Nat:=y / Nat.gcd x.natAbs y
theorem yP (x:Int) (y:Nat) (hy:0<y):Nat.gcd (ft x y).natAbs (fj x y)=1/\0<fj x y:=by
 have a:0<Nat.gcd x.natAbs y:=Nat.gcd_pos_of_pos_right _ hy;have hd:0<fj x y:=Nat.div_pos (Nat.le_of_dvd hy (Nat.gcd_dvd_right _ _)) a;refine ⟨?_,hd⟩;by_cases b:x=0
 ·subst b;unfold ft fj;simp only [Int.natAbs_zero,Nat.gcd_zero_left,Int.zero_ediv];exact Nat.div_self hy
 ·unfold ft fj;rw [(yE x y _ rfl b hy).1];rw [Nat.gcd_div (Nat.gcd_dvd_left _ _) (Nat.gcd_dvd_right _ _)];exact Nat.div_self a
theorem uO (b:Nat) (x:Int) (y L:Nat) (w:World) (f:ay w b 0 x L) (g:ay w b 2 (y:Int) L) (hy:0<y) (h:L<=4000000000000) :
  Calls Tryz.prog 140 #[.pointer (some ⟨b,0,none⟩)] w fun e w'=>e=.returned (.pointer (some ⟨b,0,none⟩))/\bA w w' b/\bJ w' b (ft x y) (fj x y) (L+2):=by
 have i:=yP x y hy;by_cases j:x=0
 ·subst j;refine (AW b y L L w f g hy).mono ?_;rintro e w' ⟨rfl,a,c,d⟩;have k:ft 0 y=0:=by simp [ft]
  have l:fj 0 y=1:=by unfold fj;simp only [Int.natAbs_zero,Nat.gcd_zero_left];exact Nat.div_self hy
  rw [k,l];exact ⟨rfl,a,c.mono O,d.mono O,O,Z⟩
 ·refine (Dn b x y L L w f g j hy h h).mono ?_;rintro e w' ⟨rfl,a,c,d⟩;exact ⟨rfl,a,c,d,i.2,i.1⟩
theorem CA (b:Nat) (x:Int) (y L:Nat) (w:World) (a c:Bool) (p q:Value) {o n:Bool} {v1 v2:Value} (g:gh w b 0 o v1) (r:gh w b 2 n v2) (s:aQ w p x.natAbs L) (t:aQ w q y L) (j:a=decide (x<0)) (l:c=decide ((y:Int)<0)) (f1:ar p≠some b) (m:ar q≠some b) :
  bA w ((((w.setCell ⟨b,0,none⟩ (.bool a)).setCell ⟨b,1,none⟩ p).setCell ⟨b,2,none⟩ (.bool c)).setCell ⟨b,3,none⟩ q) b /\
  ay ((((w.setCell ⟨b,0,none⟩ (.bool a)).setCell ⟨b,1,none⟩ p).setCell ⟨b,2,none⟩ (.bool c)).setCell ⟨b,3,none⟩ q) b 0 x L /\
  ay ((((w.setCell ⟨b,0,none⟩ (.bool a)).setCell ⟨b,1,none⟩ p).setCell ⟨b,2,none⟩ (.bool c)).setCell ⟨b,3,none⟩ q) b 2 (y:Int) L:=by
 have d:fS w ((w.setCell ⟨b,0,none⟩ (.bool a)).setCell ⟨b,1,none⟩ p) b 0:=(fS.set _ (.inl rfl)).trans (fS.set _ (.inr rfl));have f:fS ((w.setCell ⟨b,0,none⟩ (.bool a)).setCell ⟨b,1,none⟩ p) ((((w.setCell ⟨b,0,none⟩ (.bool a)).setCell ⟨b,1,none⟩ p).setCell ⟨b,2,none⟩ (.bool c)).setCell ⟨b,3,none⟩ q) b 2:=(fS.set _ (.inl rfl)).trans (fS.set _ (.inr rfl));have u:gh ((w.setCell ⟨b,0,none⟩ (.bool a)).setCell ⟨b,1,none⟩ p) b 0 a p:=by
  refine ⟨?_,?_,(d.fr 0).trans g.f0,(d.fr 1).trans g.f1⟩
  ·rw [World.cell?_setCell_other _ _ _ _ Z];exact World.cell?_setCell_same _ _ _ g.c0
  ·exact World.cell?_setCell_same _ _ _ (by rw [World.cell?_setCell_other _ _ _ _ Z];exact g.c1)
 have i:gh ((w.setCell ⟨b,0,none⟩ (.bool a)).setCell ⟨b,1,none⟩ p) b 2 n v2:=r.keep d (.inr (.inr O));refine ⟨(bA.of_put d).trans (bA.of_put f),?_,?_⟩
 ·exact ⟨a,p,u.keep f (.inr (.inl O)),(s.keep d.gr (fun k e h=>by cases e;exact f1 h)).keep f.gr (fun k e h=>by cases e;exact f1 h),j,f1⟩
 ·refine ⟨c,q,⟨?_,?_,(f.fr 2).trans i.f0,(f.fr 3).trans i.f1⟩,?_,l,m⟩
  ·rw [World.cell?_setCell_other _ _ _ _ Z];exact World.cell?_setCell_same _ _ _ i.c0
  ·exact World.cell?_setCell_same _ _ _ (by rw [World.cell?_setCell_other _ _ _ _ Z];exact i.c1)
  ·rw [Int.natAbs_natCast];exact (t.keep d.gr (fun k e h=>by cases e;exact m h)).keep f.gr (fun k e h=>by cases e;exact m h)
theorem cZ (b q r s ob:Nat) (W X:Bool) (v1 v2:Value) (x:Int) (y L:Nat) (w:World) (d:gh w b 0 W v1) (j:gh w b 2 X v2) (D:ay w q r x L) (E:ay w s ob (y:Int) L) (hy:0<y) (Y:L<=4000000000000) :
  Calls Tryz.prog 86 #[.pointer (some ⟨b,0,none⟩),.pointer (some ⟨q,r,none⟩),.pointer (some ⟨s,ob,none⟩)] w fun e V=>e=.returned (.pointer (some ⟨b,0,none⟩))/\bA w V b/\bJ V b (ft x y) (fj x y) (L+2):=by
 have HA:=ab D;have HB:=ab E;have Z1:=ab d;have Z2:=ab j;have he:=d.lt;obtain ⟨nb,vb,f,g,n,o⟩:=E;rw [Int.natAbs_natCast] at g;obtain ⟨bo,lb,cb,rfl,y1,y2,y3,y4,y5,y6⟩:=aE g;have d1:=f.c1;have hf:((lb:Int)==0)=false:=zB O;clear f g n o y1 y5 y6 d j D;go_enter Tryz.func86,Tryz.ntmps86
 go_wp2_with fail;have t:=ag (ae w none) (.cells #[.bool false,.slice none 0 0] 106);refine (pY w.heap.size 0 q r false (.slice none 0 0) x L _ (fH w) (HA.keep0 t) O).mono ?_;rintro e w1 ⟨rfl,c,m,H⟩;have K4:=ab H;clear H;have k:=ab (cw t c zL);have F:=ab m;clear c m t d1;go_wp2_with fail;have u:=ag (ae w1 none) (.cells #[.bool false,.slice none 0 0] 106);refine (pY w1.heap.size 0 s ob false (.slice none 0 0) (y:Int) L _ (fH w1) ((HB.keep0 k).keep0 u) O).mono ?_;rintro e w2 ⟨rfl,c,I,J⟩;have K5:=ab J;clear J;have l:=ab (cw u c zL);have K3:=ab I;clear c I u;have v:w.heap.size<w1.heap.size:=F.out.lt;obtain ⟨na,va,p,B,K,M⟩:=F.out.keep0 l;obtain ⟨C,hj,f,g,n,o⟩:=K3.out;have h:=(Z1.keep0 k).keep0 l;have i:=(Z2.keep0 k).keep0 l;obtain ⟨N,P,Q,rfl,_,_,_,_,_,_⟩:=aE B;obtain ⟨R,S,T,rfl,_,_,_,_,_,_⟩:=aE g;have m0:=p.c0;have m1:=p.c1;have m2:=f.c0;have m3:=f.c1;have x0:=h.c0;have x1:=h.c1;have x2:=i.c0;have x3:=i.c1;have f0:=h.f0;have f1:=h.f1;have f2:=i.f0;have f3:=i.f1;have A1:=ab p;have A2:=ab B;have A3:=ab K;have A4:=ab M;have B1:=ab f;have G:=ab g;have B3:=ab n;have B4:=ab o;have z:=ab h;have A:=ab i;clear p B K M f g n o h i;simp only [Nat.zero_add] at m0 m1 m2 m3 x0 x1 x2 x3 f0 f1 f2 f3;have F1:Hid (ar (.slice N P Q)≠some b):=by
  intro e;have:=K4.out _ (by rw [<- A1.c1];exact (World.cell?_of_block (w:=w1) (a:=⟨w.heap.size,0+1,none⟩) (l.block _ v Z)).symm) b e;simp at this;omega
 have F2:Hid (ar (.slice R S T)≠some b):=by
  intro e;have:=K5.out _ B1.c1 b e;have h2:=k.out.size;simp at this;omega
 go_wp2_with fail;obtain ⟨r1,r2,U⟩:=CA b x y L w2 na C (.slice N P Q) (.slice R S T) z A A2 (by rw [Int.natAbs_natCast] at G;exact G) A3 B3 F1 F2;refine (uO b x y L _ r2 U hy Y).mono ?_;rintro e w3 ⟨rfl,c,m⟩;have RR:=ab ((bA.of_gr (aa k l)).trans (r1.trans c));have KK:=ab m;clear r1 r2 U c m;go_wp2;go_ret;exact ⟨rfl,RR,KK⟩
theorem sD (b:Nat) (x:Int) (y L:Nat) (w:World) (h:bJ w b x y L) :
  Calls Tryz.prog 51 #[.pointer (some ⟨b,0,none⟩)] w fun e p=>e=.returned (.pointer (some ⟨b,2,none⟩))/\p=w:=by
 obtain ⟨f,g,i,j⟩:=h;obtain ⟨r,s,c,a,k,l⟩:=g;rw [Int.natAbs_natCast] at a;obtain ⟨bo,lb,t,rfl,m,u,v,z,n,o⟩:=aE a;have q:=c.c1;have d:((lb:Int)==0)=false:=zB O;clear c a k l m n o f i j;go_enter Tryz.func51,Tryz.ntmps51
 go_wp2;go_ret;exact ⟨rfl,rfl⟩
theorem bJ.keep0 {a:World} {b L:Nat} {x:Int} {y:Nat} (h:bJ w b x y L) (hg:w.grownBy a none):bJ a b x y L :=
 ⟨h.1.keep0 hg,h.2.1.keep0 hg,h.2.2⟩
theorem bJ.mono {b L L':Nat} {x:Int} {y:Nat} (h:bJ w b x y L) (a:L<=L'):bJ w b x y L':=⟨h.1.mono a,h.2.1.mono a,h.2.2⟩
theorem sM {w1:World} {r:Option Nat} (h:w.grownBy w1 r):w.grownBy w1.drew r:=⟨h.os,h.tape,h.output,h.size,h.block⟩
def kr (w wr:World) (xs ys:List Nat) (k c:Nat):Prop :=
 ∃ done:List Nat,done.length=k/\Sm done/\bW wr w.heap.size (done++List.replicate (xs.length-k) 0)/\w.grownBy wr none/\ai done+ai (ys.take k)=ai (xs.take k)+4294967296^k*c
theorem kr.step {wr:World} {xs ys:List Nat} {k c:Nat} (h:kr w wr xs ys k c) (d:k<xs.length) (x y r a:Nat) (e:x=xs[k]) (hy:y=ys.getD k 0) (f:r<4294967296) (g:r+(c+y)=x+4294967296*a) (z:Int) (i:z=(r:Int)) :
  kr w (wr.setCell ⟨w.heap.size,k,none⟩ (.int .u32 z)) xs ys (k+1) a:=by
 obtain ⟨done,b,j,l,m,n⟩:=h;refine ⟨done++[r],by simp [b],j.append (Sm.cons f Sm.nil),?_,ah m _ _ zL,?_⟩
 ·have:=l.set k r;rw [dH done k _ _ b O] at this;rw [i,show xs.length-(k+1)=xs.length-k-1 from O];exact this
 ·rw [aO,b,cO ys k,au xs k d,<- e,<- hy,Nat.pow_succ];exact iW _ _ _ _ y x r (c+y) c a n rfl g
theorem qL (x c y:Nat) (a:x<4294967296) (hc:c<=1) (hy:y<4294967296) :
  ∃ d1 d2 r c':Nat,IntKind.u64.wrap ((x:Int)-(c:Int))=(d1:Int)/\IntKind.u64.wrap ((d1:Int)-(y:Int))=(d2:Int)/\d1<18446744073709551616/\d2<18446744073709551616/\d2 % 4294967296=r/\d2 / 9223372036854775808=c'/\r<4294967296/\c'<=1/\r+(c+y)=x+4294967296*c':=by
 refine ⟨(((x:Int)-c) % 18446744073709551616).toNat,(((((x:Int)-c) % 18446744073709551616).toNat-(y:Int)) % 18446744073709551616).toNat,_,_,?_,?_,?_,?_,rfl,rfl,?_,?_,?_⟩
 ·rw [IntKind.wrap_u64];omega
 ·rw [IntKind.wrap_u64];omega
 ·omega
 ·omega
 ·omega
 ·omega
 ·omega
theorem bsub_ws (P Q:Value) (xs ys:List Nat) (w:World) (ha:Ws w P xs) (hb:Ws w Q ys) (hl:xs.length<=10000000000000) (s:ys.length<=xs.length) (o:ai ys<=ai xs) :
  Calls Tryz.prog 189 #[P,Q] w fun e w'=>∃ v',e=.returned v'/\aQ w' v' (ai xs-ai ys) xs.length/\w.grownBy w' none/\bn w v':=by
 obtain ⟨ao,ca,rfl,ho,A,U⟩:=ha.open;obtain ⟨bo,cb,rfl,hp,B,V⟩:=hb.open;unfold maxLen at A B;have HA:=ab U;have HB:=ab V;have SA:=ab ha.sm;have SB:=ab hb.sm;have G:=ab o;clear U V ha hb o;go_enter Tryz.func189,Tryz.ntmps189
 go_wp2_with (at_make;refine aC _ rfl _ _ 78 rfl Tryz.underlying78 Tryz.info32 _ _ _ _ xs.length rfl rfl O O O ?_)
 intro w1 l z;have HR:=ab l;have HG:=ab z;clear l z;go_wp2;go_loopw [6,7] (fun cv i wr=>∃ k c:Nat,k<=xs.length/\c<=1/\i=.int .i64 k/\cv=.int .u64 c/\Hid (kr w wr xs ys k c)) (fun _ i _=>xs.length-(intOf i).toNat)
 case atStart=>exact ⟨0,0,Nat.zero_le _,O,rfl,rfl,[],rfl,Sm.nil,by simpa using HR.out,HG,by simp [ai]⟩
 case round =>
  obtain ⟨k,c,hk,C,rfl,rfl,p⟩:=hrel;by_cases hlt:k<xs.length
  ·obtain ⟨b,off,rfl,hq,d⟩:=aF HA k hlt;have H:=(aF SA).get k hlt;obtain ⟨x,ex⟩:=eX (xs[k]);rw [<- ex] at d H;have R:=ab ex;clear ex;have he:wr.cell? ⟨b,off+k,none⟩=some (.int .u32 (x:Nat)):=by
    obtain ⟨done,g,q,h,m,n⟩:=p.out;exact m.cell d Z
   have hf:wr.frozen? ⟨w.heap.size,k,none⟩=false:=by
    obtain ⟨done,g,q,h,m,n⟩:=p.out;exact h.free k
   have t:∃ v,wr.cell? ⟨w.heap.size,k,none⟩=some v:=by
    obtain ⟨done,g,q,h,m,n⟩:=p.out;exact ⟨_,h.cell k (by simp;omega)⟩
   obtain ⟨v0,t⟩:=t;clear d;by_cases f:k<ys.length
   ·obtain ⟨b2,D,rfl,W,a⟩:=aF HB k f;have hy:=(aF SB).get k f;obtain ⟨y,K⟩:=eX (ys[k]);rw [<- K] at a hy;have EY:=ab K;clear K;have hm:wr.cell? ⟨b2,D+k,none⟩=some (.int .u32 (y:Nat)):=by
     obtain ⟨done,g,q,h,m,n⟩:=p.out;exact m.cell a Z
    clear a;obtain ⟨X,Y,r,E,e1,L,e3,e4,e5,e6,M,N,F⟩:=qL x c y H C hy;have I:=ab F;clear F;go_wp2;go_roundw
    case rel=>exact ⟨k+1,E,O,N,zN,by first | rfl | go_num | (congr 1;omega),kr.step p hlt x y r E R (by rw [EY];simp [f]) M I _ O⟩
    case measure=>simp [intOf];omega
   ·obtain ⟨X,Y,r,E,e1,L,e3,e4,e5,e6,M,N,F⟩:=qL x c 0 H C zD;have I:=ab F;have u:Y=X:=by rw [IntKind.wrap_u64] at L;omega
    subst u;clear F L;go_wp2;go_roundw
    case rel=>exact ⟨k+1,E,O,N,zN,by first | rfl | go_num | (congr 1;omega),kr.step p hlt x 0 r E R (by simp [List.getD,f]) M I _ O⟩
    case measure=>simp [intOf];omega
  ·obtain rfl:k=xs.length:=O
   obtain ⟨done,g,q,h,m,n⟩:=p.out;rw [Nat.sub_self,List.replicate_zero,List.append_nil] at h;have S:ai done=ai xs-ai ys:=by
    rw [zT zL,zT s] at n;have hd:=bw q;rw [g] at hd;have o:=G.out;have:c=0:=by
     rcases zP c with h0 | h0
     ·exact h0
     ·have e:c=1:=O
      rw [e,Nat.mul_one] at n;omega
    rw [this,Nat.mul_zero] at n;omega
   have J:=h.ws q (by rw [g];unfold maxLen;omega);rw [g] at J;have HW:=ab J;have HV:=ab S;have H1:=ab g;have H4:=ab m;clear J S g q h m n;go_wp2_with fail;refine (dX _ done _ HW).mono ?_;rintro e w2 ⟨v',rfl,rfl,k1,k2⟩;go_wp2;go_ret;refine ⟨v',rfl,?_,H4,?_⟩
   ·rw [HV,H1] at k1;exact k1
   ·intro j T;rw [k2] at T;simp [ar] at T;omega
theorem tP (a b:Value) (m n L M:Nat) (w:World) (ha:aQ w a m L) (hb:aQ w b n M) (g:n<=m) (p:L<=10000000000000) :
  Calls Tryz.prog 189 #[a,b] w fun e w'=>∃ v',e=.returned v'/\aQ w' v' (m-n) L/\w.grownBy w' none/\bn w v':=by
 obtain ⟨xs,c,q,i,r⟩:=ha;obtain ⟨ys,d,j,k,s⟩:=hb;have h:=ly d.sm j c.sm O;refine (bsub_ws a b xs ys w c d O h O).mono ?_;rintro e w' ⟨v',rfl,f,l,o⟩;rw [i,k] at f;exact ⟨v',rfl,f.mono O,l,o⟩
def BSumE (w:World) (z:Int) (L:Nat) (e:Ending) (w':World):Prop:=∃ (neg:Bool) (v:Value) (k:Nat),e=.returned (.tuple #[.bool neg,v])/\aQ w' v k L/\sg neg k=z/\w.grownBy w' none/\bn w v
theorem yY (m n:Nat):(0<=gG m n)↔n<=m:=by
 unfold gG;repeat' split
 all_goals omega
theorem yq (s t:Bool) (l o:Value) (m n L M:Nat) (w:World) (ha:aQ w l m L) (hb:aQ w o n M) (G:L<=9000000000000) (H:M<=9000000000000) :
  Calls Tryz.prog 162 #[.bool s,l,.bool t,o] w fun e F=>BSumE w (sg s m+sg t n) (max L M+1) e F:=by
 have y:=ab ha;have z:=ab hb;clear ha hb;by_cases a:s=t
 ·subst a;have A:(s==s)=true:=Z
  go_enter Tryz.func162,Tryz.ntmps162
  go_wp2_with fail;refine (yp l o m n L M _ y z O O).mono ?_;rintro e w1 ⟨x,rfl,b,c,d⟩;have p:=ab b;have r:=ab c;have u:=ab d;clear b c d;go_wp2;go_ret2
  exact ⟨s,x,m+n,rfl,p,by unfold sg;cases s<;>simp<;>omega,r,u⟩
 ·have A:(s==t)=false:=zB a;have v:=ab a;clear a;go_enter Tryz.func162,Tryz.ntmps162
  go_wp2_with fail;refine (yt l o m n L M _ y z).mono ?_;rintro e w1 ⟨rfl,q,rfl⟩;have f:Hid (w.grownBy (w.drewN q) none):=az q;have g:=ab (y.keep0 f);have i:=ab (z.keep0 f);generalize w.drewN q=w1 at f g i ⊢;by_cases j:n<=m
  ·have B:(0:Int)<=gG m n:=(yY m n).2 j;have C:decide ((0:Int)<=gG m n)=true:=decide_eq_true B;go_wp2_with fail;refine (tP l o m n L M _ g i j O).mono ?_;rintro e E ⟨x,rfl,b,c,d⟩;have p:=ab (b.mono (show L<=max L M+1 by omega));have r:=ab c;have u:=ab d;clear b c d;go_wp2;go_ret2
   refine ⟨s,x,m-n,rfl,p,?_,aa f r,fun k D=>Nat.le_trans f.size (u k D)⟩;have:=v.out;unfold sg;cases s<;>cases t<;>simp_all<;>omega
  ·have B:¬ (0:Int)<=gG m n:=fun h=>j ((yY m n).1 h)
   have C:decide ((0:Int)<=gG m n)=false:=decide_eq_false B;go_wp2_with fail;refine (tP o l n m M L _ i g O O).mono ?_;rintro e E ⟨x,rfl,b,c,d⟩;have p:=ab (b.mono (show M<=max L M+1 by omega));have r:=ab c;have u:=ab d;clear b c d;go_wp2;go_ret2
   refine ⟨t,x,n-m,rfl,p,?_,aa f r,fun k D=>Nat.le_trans f.size (u k D)⟩;have:=v.out;unfold sg;cases s<;>cases t<;>simp_all<;>omega
theorem sg_notB (y:Int) (neg:Bool) (h:neg=decide (y<0)):sg (!neg) y.natAbs = -y:=by
 subst h;unfold sg;by_cases e:y<0<;>simp [e]<;>omega
theorem Az (b off bx ox bY oY:Nat) (neg0:Bool) (v0:Value) (x y:Int) (L M:Nat) (w:World) (hB:gh w b off neg0 v0) (hX:ay w bx ox x L) (hY:ay w bY oY y M) (hL:L<=9000000000000) (hM:M<=9000000000000) (hnx:bx≠b) (hny:bY≠b) :
  Calls Tryz.prog 141 #[.pointer (some ⟨b,off,none⟩),.pointer (some ⟨bx,ox,none⟩),.pointer (some ⟨bY,oY,none⟩)] w fun e w'=>e=.returned (.pointer (some ⟨b,off,none⟩))/\fS w w' b off/\ay w' b off (x-y) (max L M+1)/\dQ w w' b off:=by
 have HB:=ab hB;have hb:=hB.lt;obtain ⟨neg,v,h1,h2,h3,h4⟩:=hX;obtain ⟨neg',u,h1',h2',h3',h4'⟩:=hY;have HX:=ab h1;have c0:=h1.c0;have c1:=h1.c1;have HY:=ab h1';have d0:=h1'.c0;have d1:=h1'.c1;have H2:=ab h2;have H3:=ab h3;have H2':=ab h2';have H3':=ab h3';clear hB h1 h2 h3 h4 h1' h2' h3' h4';go_enter Tryz.func141,Tryz.ntmps141
 go_wp2;go_region_held3 (fun w'=>w'.cell? ⟨bx,ox,none⟩=some (.bool neg)/\w'.cell? ⟨bx,ox+1,none⟩=some v/\w'.cell? ⟨bY,oY,none⟩=some (.bool neg')/\w'.cell? ⟨bY,oY+1,none⟩=some u) (go_keep)
  (first | (go_at_call 162;refine (yq neg (!neg') _ _ _ _ L M _ (H2.keep0 (az _)) (H2'.keep0 (az _)) hL hM).mono ?_;rintro e w1 ⟨ng,v',kk,rfl,k1,kz,k2,k3⟩;have q0:=(HX.keep0 (aa (az _) k2)).c0;have q0':=(HX.keep0 (aa (az _) k2)).c1;have q1:=(HY.keep0 (aa (az _) k2)).c0;have q1':=(HY.keep0 (aa (az _) k2)).c1) | (go_at_call 94;refine (fW b off neg0 v0 ng v' _ (max L M+1) w1 (HB.keep0 (aa (az _) k2)) k1 (fV (w1:=w) k3 hb)).mono ?_;rintro e w2 ⟨rfl,a1,a2,a5⟩;have r0:=((HX.keep0 (aa (az _) k2)).keep a1 (.inl hnx)).c0;have r1:=((HX.keep0 (aa (az _) k2)).keep a1 (.inl hnx)).c1;have r2:=((HY.keep0 (aa (az _) k2)).keep a1 (.inl hny)).c0;have r3:=((HY.keep0 (aa (az _) k2)).keep a1 (.inl hny)).c1))
 all_goals go_wp2
 all_goals go_ret
 all_goals rw [kz,nG x neg H3,sg_notB y neg' H3',<- Int.sub_eq_add_neg] at a2
 all_goals exact ⟨rfl,(fS.of_gr (aa (az _) k2) b off hb).trans a1,a2,dQ.of a5 k3 zL⟩
theorem Ay (b off h o i p:Nat) (f:Bool) (v0:Value) (x y:Int) (L M:Nat) (w:World) (t:gh w b off f v0) (G:ay w h o x L) (H:ay w i p y M) (I:L<=9000000000000) (J:M<=9000000000000) (j:h≠b) (k:i≠b) :
  Calls Tryz.prog 124 #[.pointer (some ⟨b,off,none⟩),.pointer (some ⟨h,o,none⟩),.pointer (some ⟨i,p,none⟩)] w fun e g=>e=.returned (.pointer (some ⟨b,off,none⟩))/\fS w g b off/\ay g b off (x+y) (max L M+1)/\dQ w g b off:=by
 have K:=ab t;have hb:=t.lt;obtain ⟨neg,v,s,C,D,S⟩:=G;obtain ⟨a,u,d,l,m,B⟩:=H;have q:=ab s;have c0:=s.c0;have c1:=s.c1;have r:=ab d;have Y:=d.c0;have d1:=d.c1;have N:=ab C;have P:=ab D;have z:=ab l;have A:=ab m;clear t s C D S d l m B;go_enter Tryz.func124,Tryz.ntmps124
 go_wp2;go_region_held3 (fun g=>g.cell? ⟨h,o,none⟩=some (.bool neg)/\g.cell? ⟨h,o+1,none⟩=some v/\g.cell? ⟨i,p,none⟩=some (.bool a)/\g.cell? ⟨i,p+1,none⟩=some u) (go_keep)
  (first | (go_at_call 162;refine (yq neg a _ _ _ _ L M _ (N.keep0 (az _)) (z.keep0 (az _)) I J).mono ?_;rintro e w1 ⟨T,U,kk,rfl,V,W,c,E⟩;have q0:=(q.keep0 (aa (az _) c)).c0;have Q:=(q.keep0 (aa (az _) c)).c1;have q1:=(r.keep0 (aa (az _) c)).c0;have R:=(r.keep0 (aa (az _) c)).c1) | (go_at_call 94;refine (fW b off f v0 T U _ (max L M+1) w1 (K.keep0 (aa (az _) c)) V (fV (w1:=w) E hb)).mono ?_;rintro e w2 ⟨rfl,n,F,X⟩;have r0:=((q.keep0 (aa (az _) c)).keep n (.inl j)).c0;have r1:=((q.keep0 (aa (az _) c)).keep n (.inl j)).c1;have r2:=((r.keep0 (aa (az _) c)).keep n (.inl k)).c0;have r3:=((r.keep0 (aa (az _) c)).keep n (.inl k)).c1))
 all_goals go_wp2
 all_goals go_ret
 all_goals rw [W,nG x neg P,nG y a A] at F
 all_goals exact ⟨rfl,(fS.of_gr (aa (az _) c) b off hb).trans n,F,dQ.of X E zL⟩
end Go.Proofs.YtkbmbmdemajoaaaGreatDoor
