/- Contracts. -/
import Derived.Test.YtkbmbmdemajoaaaGreatDoorXPe
import Derived.Test.YtkbmbmdemajoaaaGreatDoorXPi
namespace Go.Proofs.YtkbmbmdemajoaaaGreatDoor
open Go.RowKit
set_option linter.unusedVariables false
set_option linter.unusedSimpArgs false
set_option maxHeartbeats 8000000
set_option maxRecDepth 10000
variable {w:World} {L n:Nat} {v:Value}
theorem kw {p:Prop} (h:p:=by first | exact aP _ | exact aA | exact ae _ _):p:=h
theorem aA : w.grownBy w.drew none:=aj (ae _ _) 1
theorem aQ.lt (h:aQ w v n L):n<4294967296^L:=by
 obtain ⟨xs,a,d,b,c⟩:=h;rw [<- b];exact Nat.lt_of_lt_of_le (bw a.sm) (Nat.pow_le_pow_right zD c)
theorem FV.down_le {b:Bool} {d:Nat} (h:FV w v b n d L):0<d/\d<=4294967296^L:=by
 obtain ⟨up,c,_,_,a,_,_⟩:=h;rcases a with ⟨_,rfl⟩ | ⟨a,e⟩
 ·exact ⟨zD,Nat.pow_pos zD⟩
 ·exact ⟨O,Nat.le_of_lt a.lt⟩
theorem FV.cop {b:Bool} {d:Nat} (h:FV w v b n d L):Nat.gcd n d=1:=by
 obtain ⟨up,a,_,_,_,h,_⟩:=h;exact h
theorem mW (h:n<=4294967296^L):n<4294967296^(L+1):=by
 have:=(Nat.pow_lt_pow_iff_right (a:=4294967296) zD).2 (Nat.lt_succ_self L);exact Nat.lt_of_le_of_lt h this
theorem sI (g l:Option Addr) (h j m o:Nat) (b c:Bool) (d p f q:Nat) (w:World) (F:aQ w (.slice g h j) d p) (hy:aQ w (.slice l m o) f q) (hl:p+q<=7000000000000) :
  Calls Tryz.prog 63 #[.agg #[.bool b,.slice g h j,.slice none 0 0],.agg #[.bool c,.slice l m o,.slice none 0 0]] w fun e w'=>gw w (aY (b != c) (d*f) 1).1 (aY (b != c) (d*f) 1).2.1 (aY (b != c) (d*f) 1).2.2 (p+q+1) e w':=by
 have T:=ab F;have U:=ab hy;clear F hy;obtain ⟨W,r⟩:=eX (((w.alloc (Obj.cells #[.bool b,.slice g h j,.slice none 0 0] 81)).alloc (Obj.cells #[.bool c,.slice l m o,.slice none 0 0] 81)).alloc (Obj.cells #[.bool false,.slice none 0 0,.slice none 0 0] 81));have u:Hid (w.grownBy W none):=by rw [r];exact ag (ag (ag (ae _ _) _) _) _
 have V:Hid (∀ wx,W.grownBy wx none->bP wx (w.heap.size+1+1)):=by
  intro wx hg;rw [r] at hg;have:=bC hg;simpa using this
 have a:Hid (∀ wx,W.grownBy wx none->(wx.cell? ⟨w.heap.size,0,none⟩=some (.bool b)/\wx.cell? ⟨w.heap.size,1,none⟩=some (.slice g h j)/\wx.cell? ⟨w.heap.size,2,none⟩=some (.slice none 0 0))/\(wx.cell? ⟨w.heap.size+1,0,none⟩=some (.bool c)/\wx.cell? ⟨w.heap.size+1,1,none⟩=some (.slice l m o)/\wx.cell? ⟨w.heap.size+1,2,none⟩=some (.slice none 0 0))/\(wx.cell? ⟨w.heap.size+1+1,0,none⟩=some (.bool false)/\wx.cell? ⟨w.heap.size+1+1,1,none⟩=some (.slice none 0 0)/\wx.cell? ⟨w.heap.size+1+1,2,none⟩=some (.slice none 0 0))/\∀ i,wx.frozen? ⟨w.heap.size+1+1,i,none⟩=false):=by
  intro wx hg;rw [r] at hg;have G:=aG (aa (ag (ag (ae _ none) _) _) hg);have H:=aG (w:=w.alloc (Obj.cells #[.bool b,.slice g h j,.slice none 0 0] 81)) (aa (ag (ae _ none) _) hg);have k:=aT hg;have X:((w.alloc (Obj.cells #[.bool b,.slice g h j,.slice none 0 0] 81)).alloc (Obj.cells #[.bool c,.slice l m o,.slice none 0 0] 81)).heap.size=w.heap.size+1+1:=Z
  rw [X] at k;refine ⟨G,by simpa using H,?_,?_⟩
  ·exact ⟨k.1,k.2.1,k.2.2.1⟩
  ·exact k.2.2.2
 obtain ⟨⟨s0,s1,s2⟩,⟨t0,t1,t2⟩,⟨r0,r1,r2⟩,rf⟩:=a.out W (ae _ _);clear rf;have I:¬ w.heap.size+1+1=w.heap.size:=O
 have J:¬ w.heap.size=w.heap.size+1+1:=O
 have K:¬ w.heap.size+1+1=w.heap.size+1:=O
 go_enter Tryz.func63,Tryz.ntmps63
 go_wp2_with fail;rw [<- r];clear r;refine (cI _ _ _ _ _).mono ?_;rintro e w1 ⟨rfl,t⟩;have Y:=ab t;obtain ⟨⟨a0,G,H⟩,⟨k,a4,a5⟩,_⟩:=a.out w1 t;clear t;go_wp2_with fail;refine (cI _ _ _ _ _).mono ?_;rintro e w2 ⟨rfl,z⟩;have s:=ab (aa Y z);obtain ⟨⟨c0,c1,c2⟩,⟨c3,c4,c5⟩,_⟩:=a.out w2 s;clear z;go_wp2_with fail;refine (eP _ _ d f p q _ (T.keep0 (aa u s)) (U.keep0 (aa u s)) O).mono ?_;rintro e A ⟨v3,rfl,B,M,p3⟩;obtain ⟨xo,xl,xc,rfl,_,_,_⟩:=B.shape;have P1:=ab B;have G3:=ab (aa s M);clear B M p3;go_wp2_with fail;have x:A.grownBy (A.alloc (Obj.cells #[Value.int IntKind.u32 1] 140)) none:=ag (ae _ _) _;have GA:=ab (aa G3 x);have P2:=ab (P1.keep0 x);clear x;refine (ku _ _ _ (d*f) 1 (p+q+1) _ (P2.mono O) ((yW A).mono O) zD (.inr (Nat.gcd_one_right _))).mono ?_;rintro e N ⟨v6,rfl,f1,P⟩;obtain ⟨fo,fl,fc,C,D,E,rfl⟩:=f1.shape;have F1:=ab f1;have y:=ab (aa GA P);clear f1 P;obtain ⟨⟨g0,t,z⟩,⟨g3,g4,g5⟩,⟨Q,R,S⟩,gf⟩:=a.out N y;have he:=gf 0;have hf:=gf 1;have hj:=gf 2;clear gf;go_wp2;refine bodyPost_ret (v:=.agg #[.bool (aY (b != c) (d*f) 1).1,.slice fo fl fc,.slice C D E]) (by first | (simp [results,Tryz.results63,go_sem,Q,R,S];done) | (simp [results,Tryz.results63,go_sem,Q,R,S];rfl)) rfl ?_;exact ⟨_,rfl,F1.other (V N y) bH,ah (ah (ah (aa u y) _ _ (by simp;omega)) _ _ (by simp;omega)) _ _ (by simp;omega)⟩
theorem nr (u B k N:Option Addr) (x y C D E F P Q:Nat) (q r:Bool) (K R m M S p:Nat) (w:World) (hx:FV w (.agg #[.bool q,.slice u x y,.slice k E F]) q K R m) (hy:FV w (.agg #[.bool r,.slice B C D,.slice N P Q]) r M S p) (hl:m+p<=7000000000000)
  (hwh:∀ wx:World,(Calls Tryz.prog 101 #[.agg #[.bool q,.slice u x y,.slice k E F]] wx fun e j=>e=.returned (.bool false)/\wx.grownBy j none)∨((Calls Tryz.prog 101 #[.agg #[.bool q,.slice u x y,.slice k E F]] wx fun e j=>e=.returned (.bool true)/\wx.grownBy j none)/\∀ wx:World,Calls Tryz.prog 101 #[.agg #[.bool r,.slice B C D,.slice N P Q]] wx fun e j=>e=.returned (.bool false)/\wx.grownBy j none)) :
  Calls Tryz.prog 63 #[.agg #[.bool q,.slice u x y,.slice k E F],.agg #[.bool r,.slice B C D,.slice N P Q]] w fun e j=>gw w (aY (q != r) (K*M) (R*S)).1 (aY (q != r) (K*M) (R*S)).2.1 (aY (q != r) (K*M) (R*S)).2.2 (m+p+1) e j:=by
 have HX:=ab hx;have HY:=ab hy;obtain ⟨G,T⟩:=hx.down_le;obtain ⟨H,U⟩:=hy.down_le;have hv:=hx.cop;have hw:=hy.cop;have NX:Hid (aQ w (.slice u x y) K m):=by
  obtain ⟨up,hG,e,h1,_⟩:=hx;simp only [Value.agg.injEq,Array.mk.injEq,List.cons.injEq,and_true,true_and] at e;rw [e.1];exact h1
 have NY:Hid (aQ w (.slice B C D) M p):=by
  obtain ⟨up,hG,e,h1,_⟩:=hy;simp only [Value.agg.injEq,Array.mk.injEq,List.cons.injEq,and_true,true_and] at e;rw [e.1];exact h1
 clear hx hy;obtain ⟨G1,I⟩:=eX (Nat.gcd K S);obtain ⟨G2,J⟩:=eX (Nat.gcd M R);have hz:0<G1:=by rw [I];exact Nat.gcd_pos_of_pos_right _ H
 have hA:0<G2:=by rw [J];exact Nat.gcd_pos_of_pos_right _ G
 obtain ⟨X1,V⟩:=eX (K / G1);obtain ⟨X2,X⟩:=eX (M / G2);obtain ⟨Y1,z⟩:=eX (R / G2);obtain ⟨Y2,A⟩:=eX (S / G1);have yl:X1<4294967296^m:=by rw [V];exact Nat.lt_of_le_of_lt (Nat.div_le_self _ _) NX.lt
 have yn:X2<4294967296^p:=by rw [X];exact Nat.lt_of_le_of_lt (Nat.div_le_self _ _) NY.lt
 have yo:Y1<4294967296^(m+1):=by rw [z];exact mW (Nat.le_trans (Nat.div_le_self _ _) T)
 have yv:Y2<4294967296^(p+1):=by rw [A];exact mW (Nat.le_trans (Nat.div_le_self _ _) U)
 have jc:Y1*Y2<4294967296^(m+p+1):=by
  refine mW ?_;rw [Nat.pow_add,z,A];exact Nat.mul_le_mul (Nat.le_trans (Nat.div_le_self _ _) T) (Nat.le_trans (Nat.div_le_self _ _) U)
 have jg:0<Y1*Y2:=by
  rw [z,A,I,J];exact Nat.mul_pos (Nat.div_pos (Nat.gcd_le_right _ G) (Nat.gcd_pos_of_pos_right _ G)) (Nat.div_pos (Nat.gcd_le_right _ H) (Nat.gcd_pos_of_pos_right _ H))
 have hB:Hid (X1*X2=0∨Nat.gcd (X1*X2) (Y1*Y2)=1):=.inr (by rw [V,X,z,A,I,J];exact Ai hv hw G H);have HQ:Hid (aY (q != r) (X1*X2) (Y1*Y2)=aY (q != r) (K*M) (R*S)):=by show _=_;rw [V,X,z,A,I,J];exact Aj _ G H
 have jk:=ab V;have jl:=ab X;have jo:=ab z;have jp:=ab A;have jv:=ab I;have mc:=ab J;rw [<- HQ];clear HQ V X z A I J hv hw T U;obtain ⟨W,hW⟩:=eX (((w.alloc (Obj.cells #[.bool q,.slice u x y,.slice k E F] 81)).alloc (Obj.cells #[.bool r,.slice B C D,.slice N P Q] 81)).alloc (Obj.cells #[.bool false,.slice none 0 0,.slice none 0 0] 81));have GW:Hid (w.grownBy W none):=by rw [hW];exact ag (ag (ag (ae _ _) _) _) _
 have NW:Hid (∀ wx,W.grownBy wx none->bP wx (w.heap.size+1+1)):=by
  intro wx hg;rw [hW] at hg;have:=bC hg;simpa using this
 have b:Hid (∀ wx,W.grownBy wx none->(wx.cell? ⟨w.heap.size,0,none⟩=some (.bool q)/\wx.cell? ⟨w.heap.size,1,none⟩=some (.slice u x y)/\wx.cell? ⟨w.heap.size,2,none⟩=some (.slice k E F))/\(wx.cell? ⟨w.heap.size+1,0,none⟩=some (.bool r)/\wx.cell? ⟨w.heap.size+1,1,none⟩=some (.slice B C D)/\wx.cell? ⟨w.heap.size+1,2,none⟩=some (.slice N P Q))/\(wx.cell? ⟨w.heap.size+1+1,0,none⟩=some (.bool false)/\wx.cell? ⟨w.heap.size+1+1,1,none⟩=some (.slice none 0 0)/\wx.cell? ⟨w.heap.size+1+1,2,none⟩=some (.slice none 0 0))/\∀ i,wx.frozen? ⟨w.heap.size+1+1,i,none⟩=false):=by
  intro wx hg;rw [hW] at hg;have a1:=aG (aa (ag (ag (ae _ none) _) _) hg);have a2:=aG (w:=w.alloc (Obj.cells #[.bool q,.slice u x y,.slice k E F] 81)) (aa (ag (ae _ none) _) hg);have a3:=aT hg;have e3:((w.alloc (Obj.cells #[.bool q,.slice u x y,.slice k E F] 81)).alloc (Obj.cells #[.bool r,.slice B C D,.slice N P Q] 81)).heap.size=w.heap.size+1+1:=Z
  rw [e3] at a3;refine ⟨a1,by simpa using a2,?_,?_⟩
  ·exact ⟨a3.1,a3.2.1,a3.2.2.1⟩
  ·exact a3.2.2.2
 obtain ⟨⟨s0,s1,s2⟩,⟨t0,t1,t2⟩,⟨r0,r1,r2⟩,rf⟩:=b.out W (ae _ _);clear rf;have Hg:¬ w.heap.size+1+1=w.heap.size:=O
 have Hh:¬ w.heap.size=w.heap.size+1+1:=O
 have Hi:¬ w.heap.size+1+1=w.heap.size+1:=O
 have md:=ab hwh;clear hwh;go_enter Tryz.func63,Tryz.ntmps63
 go_upto_region 2 with fail;rw [<- hW];clear hW;go_cut [19] (fun s19 wx=>Hid (s19=.bool false/\W.grownBy wx none))
 case first =>
  go_wp2_with fail;rcases md.out W with h | ⟨h,h2⟩
  ·refine h.mono ?_;rintro e w1 ⟨rfl,g1⟩;go_wp2_with fail;go_meet
   exact ⟨rfl,g1⟩
  ·refine h.mono ?_;rintro e w1 ⟨rfl,g1⟩;obtain ⟨⟨a0,a1,a2⟩,⟨a3,a4,a5⟩,_⟩:=b.out w1 g1;go_wp2_with fail;refine (h2 _).mono ?_;rintro e w2 ⟨rfl,g2⟩;go_wp2_with fail;go_meet
   exact ⟨rfl,aa g1 g2⟩
 case rest =>
  obtain ⟨rfl,GG⟩:=hcut.out;clear hcut s0 s1 s2 t0 t1 t2 r0 r1 r2;obtain ⟨⟨s0,s1,s2⟩,⟨s3,s4,s5⟩,_⟩:=b.out wc GG;go_wp2;go_cut [6,7] (fun s6 s7 wx=>Hid (W.grownBy wx none/\(∃ o l c,s6=.slice o l c)/\(∃ o l c,s7=.slice o l c)/\aQ wx s6 G1 (m+p+1)/\aQ wx s7 G2 (m+p+1)))
  case first =>
   go_region_held3 (fun j=>j.cell? ⟨w.heap.size,0,none⟩=some (.bool q)/\j.cell? ⟨w.heap.size,1,none⟩=some (.slice u x y)/\j.cell? ⟨w.heap.size,2,none⟩=some (.slice k E F)/\j.cell? ⟨w.heap.size+1,0,none⟩=some (.bool r)/\j.cell? ⟨w.heap.size+1,1,none⟩=some (.slice B C D)/\j.cell? ⟨w.heap.size+1,2,none⟩=some (.slice N P Q)) (go_keep)
    (first | (go_at_call_of 77 (Value.agg #[.bool r,.slice B C D,.slice N P Q]);refine (fB _ r M S p _ (HY.keep0 (aa GW zF))).mono ?_;rintro e wa ⟨va,rfl,pa,ga⟩;obtain ⟨Hp,Hq,Hr,rfl,_,_,_⟩:=pa.shape;have a:=aa kw ga;have GG:W.grownBy wa none:=aa zF ga;(try have pb:=pb.keep0 a);(try have pc:=pc.keep0 a);(try have pd:=pd.keep0 a);clear a;obtain ⟨⟨hH,hI,hJ⟩,⟨hK,hL,hM⟩,⟨hN,hQ,hR⟩,d⟩:=b.out wa GG;have hf:=d 0;have hj:=d 1;have hk:=d 2;clear d) | (go_at_call_of 103 (Value.slice u x y);refine (nY _ _ K S (m+p+1) _ ((NX.keep0 (aa GW zF)).mono O) ((pa.keep0 kw).mono O) (.inr H) O).mono ?_;rintro e wb ⟨vb,rfl,pb,gb⟩;rw [<- jv] at pb;obtain ⟨Hs,Ht,Hu,rfl,_,_,_⟩:=pb.shape;have a:=aa kw gb;have GG:W.grownBy wb none:=aa zF gb;(try have pa:=pa.keep0 a);(try have pc:=pc.keep0 a);(try have pd:=pd.keep0 a);clear a;obtain ⟨⟨hS,hT,hX⟩,⟨hY,ka,kb⟩,⟨kc,kf,kk⟩,f⟩:=b.out wb GG;have hm:=f 0;have hp:=f 1;have hq:=f 2;clear f) | (go_at_call_of 77 (Value.agg #[.bool q,.slice u x y,.slice k E F]);refine (fB _ q K R m _ (HX.keep0 (aa GW zF))).mono ?_;rintro e t ⟨kl,rfl,pc,gc⟩;obtain ⟨Hv,Hw,Hx,rfl,_,_,_⟩:=pc.shape;have a:=aa kw gc;have GG:W.grownBy t none:=aa zF gc;(try have pa:=pa.keep0 a);(try have pb:=pb.keep0 a);(try have pd:=pd.keep0 a);clear a;obtain ⟨⟨ko,kz,kF⟩,⟨kH,kN,qf⟩,⟨ql,qo,qq⟩,g⟩:=b.out t GG;have hr:=g 0;have hs:=g 1;have hu:=g 2;clear g) | (go_at_call_of 103 (Value.slice B C D);refine (nY _ _ M R (m+p+1) _ ((NY.keep0 (aa GW zF)).mono O) ((pc.keep0 kw).mono O) (.inr G) O).mono ?_;rintro e wd ⟨vd,rfl,pd,gd⟩;rw [<- mc] at pd;obtain ⟨Hy,Hz,HA,rfl,_,_,_⟩:=pd.shape;have a:=aa kw gd;have GG:W.grownBy wd none:=aa zF gd;(try have pa:=pa.keep0 a);(try have pb:=pb.keep0 a);(try have pc:=pc.keep0 a);clear a;obtain ⟨⟨ml,mm,mo⟩,⟨mp,ms,mt⟩,⟨Ha,Hb,Hc⟩,s⟩:=b.out wd GG;have hC:=s 0;have hD:=s 1;have hE:=s 2;clear s))
   all_goals (go_wp2_with fail;go_meet;exact ⟨zF,⟨_,_,_,rfl⟩,⟨_,_,_,rfl⟩,pb.keep0 kw,pd.keep0 kw⟩)
  case rest =>
   clear GG s0 s1 s2 s3 s4 s5;obtain ⟨GG,⟨go,gl,gc,rfl⟩,⟨ho,qs,hc,rfl⟩,S6,S7⟩:=hcut.out;clear hcut;obtain ⟨⟨s0,s1,s2⟩,⟨s3,s4,s5⟩,_⟩:=b.out wc GG;go_wp2;go_cut [8] (fun s8 wx=>Hid (W.grownBy wx none/\(∃ o l c,s8=.slice o l c)/\aQ wx s8 (X1*X2) (m+p)/\aQ wx (.slice go gl gc) G1 (m+p+1)/\aQ wx (.slice ho qs hc) G2 (m+p+1)))
   case first =>
    go_region_held3 (fun j=>j.cell? ⟨w.heap.size,0,none⟩=some (.bool q)/\j.cell? ⟨w.heap.size,1,none⟩=some (.slice u x y)/\j.cell? ⟨w.heap.size,2,none⟩=some (.slice k E F)/\j.cell? ⟨w.heap.size+1,0,none⟩=some (.bool r)/\j.cell? ⟨w.heap.size+1,1,none⟩=some (.slice B C D)/\j.cell? ⟨w.heap.size+1,2,none⟩=some (.slice N P Q)) (go_keep)
     (first | (go_at_call_of 104 (Value.slice u x y);refine (fO _ _ K G1 (m+p+1) _ ((NX.keep0 (aa GW zF)).mono O) (S6.keep0 kw) hz O).mono ?_;rintro e wa ⟨va,rfl,qa,ga⟩;rw [<- jk] at qa;obtain ⟨HB,HC,HD,rfl,_,_,_⟩:=qa.shape;have a:=aa kw ga;have GG:W.grownBy wa none:=aa zF ga;(try have qb:=qb.keep0 a);(try have qc:=qc.keep0 a);(try have S6:=S6.keep0 a);(try have S7:=S7.keep0 a);clear a;obtain ⟨⟨hH,hI,hJ⟩,⟨hK,hL,hM⟩,⟨hN,hQ,hR⟩,d⟩:=b.out wa GG;have hf:=d 0;have hj:=d 1;have hk:=d 2;clear d) | (go_at_call_of 104 (Value.slice B C D);refine (fO _ _ M G2 (m+p+1) _ ((NY.keep0 (aa GW zF)).mono O) (S7.keep0 kw) hA O).mono ?_;rintro e wb ⟨vb,rfl,qb,gb⟩;rw [<- jl] at qb;obtain ⟨HE,HF,HG,rfl,_,_,_⟩:=qb.shape;have a:=aa kw gb;have GG:W.grownBy wb none:=aa zF gb;(try have qa:=qa.keep0 a);(try have qc:=qc.keep0 a);(try have S6:=S6.keep0 a);(try have S7:=S7.keep0 a);clear a;obtain ⟨⟨hS,hT,hX⟩,⟨hY,ka,kb⟩,⟨kc,kf,kk⟩,f⟩:=b.out wb GG;have hm:=f 0;have hp:=f 1;have hq:=f 2;clear f) | (go_at_call 76;refine (eP _ _ X1 X2 m p _ ((qa.keep0 kw).tight yl) ((qb.keep0 kw).tight yn) O).mono ?_;rintro e t ⟨kl,rfl,qc,gc,_⟩;obtain ⟨HH,HI,HJ,rfl,_,_,_⟩:=qc.shape;have a:=aa kw gc;have GG:W.grownBy t none:=aa zF gc;(try have qa:=qa.keep0 a);(try have qb:=qb.keep0 a);(try have S6:=S6.keep0 a);(try have S7:=S7.keep0 a);clear a;obtain ⟨⟨ko,kz,kF⟩,⟨kH,kN,qf⟩,⟨ql,qo,qq⟩,g⟩:=b.out t GG;have hr:=g 0;have hs:=g 1;have hu:=g 2;clear g))
    all_goals (go_wp2_with fail;go_meet;exact ⟨zF,⟨_,_,_,rfl⟩,qc.keep0 kw,S6.keep0 kw,S7.keep0 kw⟩)
   case rest =>
    clear GG s0 s1 s2 s3 s4 s5 S6 S7;obtain ⟨GG,⟨io,il,ic,rfl⟩,S8,S6,S7⟩:=hcut.out;clear hcut;obtain ⟨⟨s0,s1,s2⟩,⟨s3,s4,s5⟩,_⟩:=b.out wc GG;go_wp2;go_region_held3 (fun j=>j.cell? ⟨w.heap.size,0,none⟩=some (.bool q)/\j.cell? ⟨w.heap.size,1,none⟩=some (.slice u x y)/\j.cell? ⟨w.heap.size,2,none⟩=some (.slice k E F)/\j.cell? ⟨w.heap.size+1,0,none⟩=some (.bool r)/\j.cell? ⟨w.heap.size+1,1,none⟩=some (.slice B C D)/\j.cell? ⟨w.heap.size+1,2,none⟩=some (.slice N P Q)) (go_keep)
     (first | (go_at_call_of 77 (Value.agg #[.bool q,.slice u x y,.slice k E F]);refine (fB _ q K R m _ (HX.keep0 (aa GW zF))).mono ?_;rintro e wa ⟨va,rfl,ra,ga⟩;obtain ⟨HK,HL,HM,rfl,_,_,_⟩:=ra.shape;have a:=aa kw ga;have GG:W.grownBy wa none:=aa zF ga;(try have rb:=rb.keep0 a);(try have rc:=rc.keep0 a);(try have rd:=rd.keep0 a);(try have Y:=Y.keep0 a);(try have S6:=S6.keep0 a);(try have S7:=S7.keep0 a);(try have S8:=S8.keep0 a);clear a;obtain ⟨⟨hH,hI,hJ⟩,⟨hK,hL,hM⟩,⟨hN,hQ,hR⟩,d⟩:=b.out wa GG;have hf:=d 0;have hj:=d 1;have hk:=d 2;clear d) | (go_at_call_of 104 (Value.slice ho qs hc);refine (fO _ _ R G2 (m+p+1) _ ((ra.keep0 kw).mono O) (S7.keep0 kw) hA O).mono ?_;rintro e wb ⟨vb,rfl,rb,gb⟩;rw [<- jo] at rb;obtain ⟨HN,HP,HR,rfl,_,_,_⟩:=rb.shape;have a:=aa kw gb;have GG:W.grownBy wb none:=aa zF gb;(try have ra:=ra.keep0 a);(try have rc:=rc.keep0 a);(try have rd:=rd.keep0 a);(try have Y:=Y.keep0 a);(try have S6:=S6.keep0 a);(try have S7:=S7.keep0 a);(try have S8:=S8.keep0 a);clear a;obtain ⟨⟨hS,hT,hX⟩,⟨hY,ka,kb⟩,⟨kc,kf,kk⟩,f⟩:=b.out wb GG;have hm:=f 0;have hp:=f 1;have hq:=f 2;clear f) | (go_at_call_of 77 (Value.agg #[.bool r,.slice B C D,.slice N P Q]);refine (fB _ r M S p _ (HY.keep0 (aa GW zF))).mono ?_;rintro e t ⟨kl,rfl,rc,yc⟩;obtain ⟨HS,HT,HU,rfl,_,_,_⟩:=rc.shape;have a:=aa kw yc;have GG:W.grownBy t none:=aa zF yc;(try have ra:=ra.keep0 a);(try have rb:=rb.keep0 a);(try have rd:=rd.keep0 a);(try have Y:=Y.keep0 a);(try have S6:=S6.keep0 a);(try have S7:=S7.keep0 a);(try have S8:=S8.keep0 a);clear a;obtain ⟨⟨ko,kz,kF⟩,⟨kH,kN,qf⟩,⟨ql,qo,qq⟩,g⟩:=b.out t GG;have hr:=g 0;have hs:=g 1;have hu:=g 2;clear g) | (go_at_call_of 104 (Value.slice go gl gc);refine (fO _ _ S G1 (m+p+1) _ ((rc.keep0 kw).mono O) (S6.keep0 kw) hz O).mono ?_;rintro e wd ⟨vd,rfl,rd,gd⟩;rw [<- jp] at rd;obtain ⟨HV,HW,Ka,rfl,_,_,_⟩:=rd.shape;have a:=aa kw gd;have GG:W.grownBy wd none:=aa zF gd;(try have ra:=ra.keep0 a);(try have rb:=rb.keep0 a);(try have rc:=rc.keep0 a);(try have Y:=Y.keep0 a);(try have S6:=S6.keep0 a);(try have S7:=S7.keep0 a);(try have S8:=S8.keep0 a);clear a;obtain ⟨⟨ml,mm,mo⟩,⟨mp,ms,mt⟩,⟨Ha,Hb,Hc⟩,s⟩:=b.out wd GG;have hC:=s 0;have hD:=s 1;have hE:=s 2;clear s) | (go_at_call 76;refine (eP _ _ Y1 Y2 (m+1) (p+1) _ ((rb.keep0 kw).tight yo) ((rd.keep0 kw).tight yv) O).mono ?_;rintro e we ⟨ve,rfl,Y,ge,_⟩;obtain ⟨Kb,rel,Kc,rfl,_,_,_⟩:=Y.shape;have a:=aa kw ge;have GG:W.grownBy we none:=aa zF ge;(try have ra:=ra.keep0 a);(try have rb:=rb.keep0 a);(try have rc:=rc.keep0 a);(try have rd:=rd.keep0 a);(try have S6:=S6.keep0 a);(try have S7:=S7.keep0 a);(try have S8:=S8.keep0 a);clear a;obtain ⟨⟨Kd,Ke,Kf⟩,⟨Kg,Kh,Ki⟩,⟨Kj,Kk,Kl⟩,he⟩:=b.out we GG;have Hj:=he 0;have Hk:=he 1;have Hl:=he 2;clear he) | (go_at_call 105;refine (ku _ _ _ (X1*X2) (Y1*Y2) (m+p+1) _ ((S8.keep0 kw).mono O) ((Y.keep0 kw).tight jc) jg hB).mono ?_;rintro e wf ⟨v6,rfl,f1,f2⟩;obtain ⟨fo,fl,fc,Hd,He,Hf,rfl⟩:=f1.shape;have GG:W.grownBy wf none:=aa zF f2;obtain ⟨⟨g0,g1,g2⟩,⟨g3,g4,g5⟩,⟨g6,g7,g8⟩,gf⟩:=b.out wf GG;have Hm:=gf 0;have Hn:=gf 1;have Ho:=gf 2;clear gf))
    all_goals
     have F1:=ab f1;have hF:=ab GG;clear f1 f2;go_wp2;refine bodyPost_ret (v:=.agg #[.bool (aY (q != r) (X1*X2) (Y1*Y2)).1,.slice fo fl fc,.slice Hd He Hf]) (by first | (simp [results,Tryz.results63,go_sem,g6,g7,g8];done) | (simp [results,Tryz.results63,go_sem,g6,g7,g8];rfl)) rfl ?_;exact ⟨_,rfl,F1.other (NW wf hF) bH,ah (ah (ah (aa GW hF) _ _ (by simp;omega)) _ _ (by simp;omega)) _ _ (by simp;omega)⟩
theorem qX (x y:Value) (a b:Bool) (c j f d g i:Nat) (w:World) (M:FV w x a c j f) (hy:FV w y b d g i) (l:f+i<=7000000000000) :
  Calls Tryz.prog 63 #[x,y] w fun e X=>gw w (aY (a != b) (c*d) (j*g)).1 (aY (a != b) (c*d) (j*g)).2.1 (aY (a != b) (c*d) (j*g)).2.2 (f+i+1) e X:=by
 have N:=M;have m:=hy;obtain ⟨up,P,rfl,Q,q,h3,h4⟩:=M;obtain ⟨S,r,rfl,R,s,k3,k4⟩:=hy;obtain ⟨t,u,z,rfl,_⟩:=Q.shape;obtain ⟨A,B,C,rfl,_⟩:=R.shape;rcases q with ⟨rfl,rfl⟩ | ⟨q,hd⟩
 ·rcases s with ⟨rfl,rfl⟩ | ⟨s,kd⟩
  ·exact sI t A u z B C a b c f d i w Q R l
  ·obtain ⟨D,k,E,rfl,F,G,H⟩:=s.shape;have o:0<k:=by
    rcases zP k with h | h
    ·have:=F.1 h;omega
    ·exact h
   exact nr t A none D u z B C 0 0 k E a b c 1 f d g i w N m l (fun K=>.inr ⟨cI _ _ _ _ K,fun Y=>fF _ _ _ _ _ _ _ Y o G H⟩)
 ·obtain ⟨I,J,T,rfl,F,G,H⟩:=q.shape;have p:0<J:=by
   rcases zP J with h | h
   ·have:=F.1 h;omega
   ·exact h
  obtain ⟨U,V,W,D,k,E,e⟩:=m.shape;simp only [Value.agg.injEq,Array.mk.injEq,List.cons.injEq,and_true,true_and] at e;obtain ⟨_,rfl⟩:=e;exact nr t A I D u z B C J T k E a b c j f d g i w N m l (fun K=>.inl (fF _ _ _ _ _ _ _ K p G H))
def FQ (w:World) (v:Value) (q:Rat) (L:Nat):Prop:=FV w v (rB q) (rN q) q.den L
def FQE (w:World) (q:Rat) (L:Nat) (e:Ending) (w':World):Prop:=∃ v,e=.returned v/\FQ w' v q L/\w.grownBy w' none
theorem FQ.keep0 {a:World} {q:Rat} (h:FQ w v q L) (hg:w.grownBy a none):FQ a v q L:=FV.keep0 h hg
theorem FQ.mono {q:Rat} {L':Nat} (h:FQ w v q L) (c:L<=L'):FQ w v q L':=by
 obtain ⟨up,a,e,d,b,f,g⟩:=h;refine ⟨up,a,e,d.mono c,?_,f,g⟩;rcases b with b | ⟨b,i⟩
 ·exact .inl b
 ·exact .inr ⟨b.mono c,i⟩
theorem FQ.shape {q:Rat} (h:FQ w v q L):∃ uo ul uc do_ dl dc,v=.agg #[.bool (rB q),.slice uo ul uc,.slice do_ dl dc]:=FV.shape h
theorem yO (b:Bool) (n d:Nat):aY b n d=(rB (mkRat (fP b n) d),rN (mkRat (fP b n) d),(mkRat (fP b n) d).den):=by
 unfold aY;by_cases h:n=0∨d=0
 ·rw [if_pos h,mk_zero b n d h];rfl
 ·rw [if_neg h];obtain ⟨a,c,f⟩:=uL b n d (fun e=>h (.inl e)) (fun e=>h (.inr e));unfold rB rN;rw [a,c,f]
theorem gw.q {b:Bool} {d:Nat} {q:Rat} (c:mkRat (fP b n) d=q) {e:Ending} {a:World} (h:gw w (aY b n d).1 (aY b n d).2.1 (aY b n d).2.2 L e a):FQE w q L e a:=by
 rw [yO,c] at h;exact h
theorem eN (x y:Value) (p q:Rat) (a b:Nat) (w:World) (c:FQ w x p a) (hy:FQ w y q b) (d:a+b<=7000000000000) :
  Calls Tryz.prog 63 #[x,y] w fun e w'=>FQE w (p*q) (a+b+1) e w':=by
 refine (qX x y _ _ _ _ a _ _ b w c hy d).mono ?_;intro e w' h;exact gw.q (q_mul p q) h
def fy (l:List UInt8):Rat :=
 if cr (Lib.cut (Lib.trimPrefix l [45]) [47]).1 && cr (fD (Lib.trimPrefix l [45])) then
  mkRat (fP (Lib.hasPrefix l [45]) (aZ (Lib.cut (Lib.trimPrefix l [45]) [47]).1)) (aZ (fD (Lib.trimPrefix l [45])))
 else 0
theorem Dr (l:List UInt8):iy l=(rB (fy l),rN (fy l),(fy l).den):=by
 unfold iy fy;split
 ·exact yO _ _ _
 ·rfl
theorem DH (s:ByteArray) (m:Int) (w:World) (b:s.size<=600000000) (a:w.cell? ⟨1,0,none⟩=some (.int .i64 m)) :
  Calls Tryz.prog 59 #[.string s] w fun e w'=>FQE w (fy s.data.toList) (s.size+1) e w':=by
 refine (uQ s m w b a).mono ?_;intro e w' h;unfold OfE at h;rw [Dr] at h;exact h
def nU (w wr:World) (xs ys:List Nat) (k c:Nat):Prop :=
 ∃ done:List Nat,done.length=k/\Sm done/\bW wr w.heap.size (done++List.replicate (xs.length+1-k) 0)/\w.grownBy wr none/\ai done+4294967296^k*c=ai (xs.take k)+ai (ys.take k)
theorem DE (p c x y V X Y t q r:Nat) (h:V+p*c=X+Y) (a:t=c+x+y) (b:t=r+4294967296*q):V+p*r+p*4294967296*q=X+p*x+(Y+p*y):=by
 have e:p*t=p*r+p*4294967296*q:=by rw [b,Nat.mul_add,Nat.mul_assoc]
 have d:p*t=p*c+p*x+p*y:=by rw [a,Nat.mul_add,Nat.mul_add]
 omega
theorem nU.step {wr:World} {xs ys:List Nat} {k c:Nat} (h:nU w wr xs ys k c) (b:k<xs.length) (x y:Nat) (d:x=xs[k]) (hy:y=ys.getD k 0) (t:Nat) (z:Int) (f:t=c+x+y) (g:z=((t % 4294967296:Nat):Int)) :
  nU w (wr.setCell ⟨w.heap.size,k,none⟩ (.int .u32 z)) xs ys (k+1) (t / 4294967296):=by
 obtain ⟨done,a,i,j,l,m⟩:=h;refine ⟨done++[t % 4294967296],by simp [a],i.append (Sm.cons (Nat.mod_lt _ zD) Sm.nil),?_,ah l _ _ zL,?_⟩
 ·have:=j.set k (t % 4294967296);rw [dH _ _ _ _ a O] at this;rw [g,show xs.length+1-(k+1)=xs.length+1-k-1 from O];exact this
 ·rw [aO,a,au xs k b,<- d,cO ys k,<- hy,Nat.pow_succ];have e:t=t % 4294967296+4294967296*(t / 4294967296):=O
  exact DE _ c x y _ _ _ t _ _ m f e
def PlusR (w:World) (xs ys:List Nat) (cv iv:Value) (wr:World):Prop:=∃ k c:Nat,k<=xs.length/\c<=1/\iv=.int .i64 k/\cv=.int .u64 (c:Nat)/\nU w wr xs ys k c
theorem A9 (I J:Value) (xs ys:List Nat) (w:World) (ha:Ws w I xs) (hb:Ws w J ys) (z:ys.length<=xs.length) (hl:xs.length<=10000000000000) :
  Calls Tryz.prog 148 #[I,J] w fun e w'=>qK w (ai xs+ai ys) (xs.length+1) e w':=by
 obtain ⟨ao,ca,rfl,hm,o,N⟩:=ha.open;obtain ⟨bo,cb,rfl,ho,p,P⟩:=hb.open;unfold maxLen at o p;have T:=ab N;have U:=ab P;have V:=ab ha.sm;have W:=ab hb.sm;clear N ha P hb;go_enter Tryz.func148,Tryz.ntmps148
 go_wp2_with (at_make;refine aC _ rfl _ _ 79 rfl Tryz.underlying79 Tryz.info32 _ _ _ _ (xs.length+1) rfl rfl O O O ?_)
 intro w1 h m;have X:=ab h;have Y:=ab m;clear h m;go_wp2;go_loopw [6,22] (fun cv iv wr=>Hid (PlusR w xs ys cv iv wr)) (fun _ iv _=>xs.length-(intOf iv).toNat)
 case atStart=>exact ⟨0,0,Nat.zero_le _,O,rfl,rfl,[],rfl,Sm.nil,by simpa using X.out,Y,by simp [ai]⟩
 case round =>
  obtain ⟨k,c,hk,hc,rfl,rfl,q⟩:=hrel.out;have s:=ab q;clear hrel q;by_cases hlt:k<xs.length
  ·obtain ⟨b',off,rfl,hp,b⟩:=aF T k hlt;have hx:=(aF V).get k hlt;obtain ⟨x,ex⟩:=eX (xs[k]);rw [<- ex] at b hx;have K:=ab ex;clear ex;obtain ⟨done,g,t,i,l,u⟩:=s.out;have he:wr.cell? ⟨b',off+k,none⟩=some (.int .u32 (x:Nat)):=l.cell b Z;have A:wr.frozen? ⟨w.heap.size,k,none⟩=false:=i.free k;obtain ⟨v0,F⟩:∃ v,wr.cell? ⟨w.heap.size,k,none⟩=some v:=⟨_,i.cell k (by simp [g];omega)⟩;have B:=ab l;clear g t i l u b;by_cases d:k<ys.length
   ·obtain ⟨G,r,rfl,Q,a⟩:=aF U k d;have hy:=(aF W).get k d;obtain ⟨y,H⟩:=eX (ys[k]);rw [<- H] at a hy;have C:Hid (y=ys.getD k 0):=by rw [H];show _=_;simp [d]
    have hf:wr.cell? ⟨G,r+k,none⟩=some (.int .u32 (y:Nat)):=B.out.cell a Z;clear H a;go_wp2;go_roundw
    case rel=>exact ⟨k+1,(c+x+y) / 4294967296,O,O,zN,zN,s.step hlt x y K C _ _ rfl O⟩
    case measure=>simp [intOf];omega
   ·have C:Hid ((0:Nat)=ys.getD k 0):=by show _=_;simp [List.getD,show ¬ k<ys.length from d]
    go_wp2;go_roundw
    case rel=>exact ⟨k+1,(c+x) / 4294967296,O,O,zN,zN,s.step hlt x 0 K C _ _ Z O⟩
    case measure=>simp [intOf];omega
  ·obtain rfl:k=xs.length:=O
   obtain ⟨done,g,t,i,l,u⟩:=s.out;have A:wr.frozen? ⟨w.heap.size,xs.length,none⟩=false:=i.free _;obtain ⟨v0,F⟩:∃ v,wr.cell? ⟨w.heap.size,xs.length,none⟩=some v:=⟨_,i.cell xs.length (by simp [g])⟩;have f:=i.set xs.length c;rw [dH _ _ _ _ g O,show xs.length+1-xs.length-1=0 from O,List.replicate_zero,List.append_nil] at f;have D:=f.ws (t.append (Sm.cons O Sm.nil)) (by simp [g];unfold maxLen;omega);rw [show (done++[c]).length=xs.length+1 from by simp [g]] at D;have HW:=ab D;have HV:Hid (ai (done++[c])=ai xs+ai ys):=by
    show _=_
    rw [aO,g,u,zT zL,zT z]
   have E:Hid ((done++[c]).length=xs.length+1):=by show _=_;simp [g]
   have H4:=ab (ah l ⟨w.heap.size,xs.length,none⟩ (.int .u32 (c:Nat)) zL);clear g t i l u f D;go_wp2_with fail;refine (fE _ (done++[c]) _ HW).mono ?_;rintro e w2 ⟨v',rfl,rfl,R,S⟩;have K1:=ab R;have K2:=ab S;clear R S;go_wp2;go_ret;refine ⟨v',rfl,?_,H4,?_⟩
   ·have:=K1.out;rw [HV,E] at this;exact this
   ·intro j M;rw [K2] at M;simp [ar] at M;omega
theorem xP (I J:Value) (xs ys:List Nat) (w:World) (ha:Ws w I xs) (hb:Ws w J ys) (z:ys.length<xs.length) (hl:xs.length<=10000000000000) :
  Calls Tryz.prog 148 #[J,I] w fun e w'=>qK w (ai xs+ai ys) (xs.length+1) e w':=by
 obtain ⟨ao,ca,rfl,hm,o,N⟩:=ha.open;obtain ⟨bo,cb,rfl,ho,p,P⟩:=hb.open;unfold maxLen at o p;have T:=ab N;have U:=ab P;have V:=ab ha.sm;have W:=ab hb.sm;clear N ha P hb;go_enter Tryz.func148,Tryz.ntmps148
 go_wp2_with (at_make;refine aC _ rfl _ _ 79 rfl Tryz.underlying79 Tryz.info32 _ _ _ _ (xs.length+1) rfl rfl O O O ?_)
 intro w1 h m;have X:=ab h;have Y:=ab m;clear h m;go_wp2;go_loopw [6,22] (fun cv iv wr=>Hid (PlusR w xs ys cv iv wr)) (fun _ iv _=>xs.length-(intOf iv).toNat)
 case atStart=>exact ⟨0,0,Nat.zero_le _,O,rfl,rfl,[],rfl,Sm.nil,by simpa using X.out,Y,by simp [ai]⟩
 case round =>
  obtain ⟨k,c,hk,hc,rfl,rfl,q⟩:=hrel.out;have s:=ab q;clear hrel q;by_cases hlt:k<xs.length
  ·obtain ⟨b',off,rfl,hp,b⟩:=aF T k hlt;have hx:=(aF V).get k hlt;obtain ⟨x,ex⟩:=eX (xs[k]);rw [<- ex] at b hx;have K:=ab ex;clear ex;obtain ⟨done,g,t,i,l,u⟩:=s.out;have he:wr.cell? ⟨b',off+k,none⟩=some (.int .u32 (x:Nat)):=l.cell b Z;have A:wr.frozen? ⟨w.heap.size,k,none⟩=false:=i.free k;obtain ⟨v0,F⟩:∃ v,wr.cell? ⟨w.heap.size,k,none⟩=some v:=⟨_,i.cell k (by simp [g];omega)⟩;have B:=ab l;clear g t i l u b;by_cases d:k<ys.length
   ·obtain ⟨G,r,rfl,Q,a⟩:=aF U k d;have hy:=(aF W).get k d;obtain ⟨y,H⟩:=eX (ys[k]);rw [<- H] at a hy;have C:Hid (y=ys.getD k 0):=by rw [H];show _=_;simp [d]
    have hf:wr.cell? ⟨G,r+k,none⟩=some (.int .u32 (y:Nat)):=B.out.cell a Z;clear H a;go_wp2;go_roundw
    case rel=>exact ⟨k+1,(c+x+y) / 4294967296,O,O,zN,zN,s.step hlt x y K C _ _ rfl O⟩
    case measure=>simp [intOf];omega
   ·have C:Hid ((0:Nat)=ys.getD k 0):=by show _=_;simp [List.getD,show ¬ k<ys.length from d]
    go_wp2;go_roundw
    case rel=>exact ⟨k+1,(c+x) / 4294967296,O,O,zN,zN,s.step hlt x 0 K C _ _ Z O⟩
    case measure=>simp [intOf];omega
  ·obtain rfl:k=xs.length:=O
   obtain ⟨done,g,t,i,l,u⟩:=s.out;have A:wr.frozen? ⟨w.heap.size,xs.length,none⟩=false:=i.free _;obtain ⟨v0,F⟩:∃ v,wr.cell? ⟨w.heap.size,xs.length,none⟩=some v:=⟨_,i.cell xs.length (by simp [g])⟩;have f:=i.set xs.length c;rw [dH _ _ _ _ g O,show xs.length+1-xs.length-1=0 from O,List.replicate_zero,List.append_nil] at f;have D:=f.ws (t.append (Sm.cons O Sm.nil)) (by simp [g];unfold maxLen;omega);rw [show (done++[c]).length=xs.length+1 from by simp [g]] at D;have HW:=ab D;have HV:Hid (ai (done++[c])=ai xs+ai ys):=by
    show _=_
    rw [aO,g,u,zT zL,zT (Nat.le_of_lt z)]
   have E:Hid ((done++[c]).length=xs.length+1):=by show _=_;simp [g]
   have H4:=ab (ah l ⟨w.heap.size,xs.length,none⟩ (.int .u32 (c:Nat)) zL);clear g t i l u f D;go_wp2_with fail;refine (fE _ (done++[c]) _ HW).mono ?_;rintro e w2 ⟨v',rfl,rfl,R,S⟩;have K1:=ab R;have K2:=ab S;clear R S;go_wp2;go_ret;refine ⟨v',rfl,?_,H4,?_⟩
   ·have:=K1.out;rw [HV,E] at this;exact this
   ·intro j M;rw [K2] at M;simp [ar] at M;omega
theorem DG (b c:Value) (m n L M:Nat) (w:World) (ha:aQ w b m L) (hb:aQ w c n M) (o:L+M<=10000000000000) :
  Calls Tryz.prog 148 #[b,c] w fun e w'=>qK w (m+n) (max L M+1) e w':=by
 obtain ⟨xs,i,p,j,q⟩:=ha;obtain ⟨ys,k,r,l,s⟩:=hb;by_cases h:ys.length<=xs.length
 ·refine (A9 b c xs ys w i k h O).mono ?_;rintro e w' ⟨d,rfl,a,f,g⟩;rw [j,l] at a;exact ⟨d,rfl,a.mono O,f,g⟩
 ·refine (xP c b ys xs w k i O O).mono ?_;rintro e w' ⟨d,rfl,a,f,g⟩;rw [j,l,Nat.add_comm] at a;exact ⟨d,rfl,a.mono O,f,g⟩
def MinusR (w:World) (v:Value) (xs ys:List Nat) (ov iv:Value) (wr:World):Prop :=
 ∃ (k o:Nat) (done:List Nat),k<=xs.length/\o<=1/\iv=.int .i64 k/\ov=.int .u32 (o:Nat)/\done.length=k/\Sm done/\gE wr w.heap.size v (done++xs.drop k)/\w.grownBy wr none/\ai done+ai (ys.take k)=ai (xs.take k)+4294967296^k*o
theorem jy (x t:Nat) (a:x<4294967296) (b:t<=4294967296) :
  ∃ r:Nat,IntKind.u32.wrap ((x:Int)-(t:Int) % 4294967296)=(r:Int)/\r<4294967296/\((x<t->r+t=x+4294967296)/\(¬ x<t->r+t=x)):=by
 rw [IntKind.wrap_u32];refine ⟨(((x:Int)-(t:Int) % 4294967296) % 4294967296).toNat,O,O,?_,?_⟩<;>intro h<;>omega
theorem iW (p V Y X y x r t o a:Nat) (h:V+Y=X+p*o) (b:t=o+y) (c:r+t=x+4294967296*a):V+p*r+(Y+p*y)=X+p*x+p*4294967296*a:=by
 have e:p*r+p*t=p*x+p*4294967296*a:=by rw [<- Nat.mul_add,c,Nat.mul_add,Nat.mul_assoc]
 have d:p*t=p*o+p*y:=by rw [b,Nat.mul_add]
 omega
theorem AS (done xs:List Nat) (k r:Nat) (a:done.length=k) (b:k<xs.length):(done++xs.drop k).set k r=(done++[r])++xs.drop (k+1):=by
 rw [List.set_append_right _ _ O,a,Nat.sub_self,List.drop_eq_getElem_cons b,List.set_cons_zero,List.append_assoc];rfl
theorem AP (done xs:List Nat) (k:Nat) (a:done.length=k) (b:k<xs.length) (h:k<(done++xs.drop k).length):(done++xs.drop k)[k]=xs[k]:=by
 rw [List.getElem_append_right O];simp [a]
theorem Df (va vb:Value) (xs ys:List Nat) (w:World) (ha:Ws w va xs) (hb:Ws w vb ys) (C:ys.length<=xs.length) (t:ai ys<=ai xs) (hl:xs.length<=10000000000000) :
  Calls Tryz.prog 149 #[va,vb] w fun e w'=>qK w (ai xs-ai ys) xs.length e w':=by
 obtain ⟨ao,ca,rfl,hq,G,Ha⟩:=ha.open;obtain ⟨bo,cb,rfl,hs,H,Hb⟩:=hb.open;unfold maxLen at G H;have WA:=ab ha;have HB:=ab Hb;have SA:=ab ha.sm;have SB:=ab hb.sm;have P:=ab t;clear Ha ha Hb hb t;go_enter Tryz.func149,Tryz.ntmps149
 go_wp2_with fail;refine (js _ xs w WA hl).mono ?_;rintro e w1 ⟨v,rfl,T,g1⟩;have O1:=ab T;have G1:=ab g1;obtain ⟨U,V,rfl,hu,W,X⟩:=T.open;unfold maxLen at W;clear T g1 X;go_wp2;go_loopw [6,13] (fun ov iv wr=>Hid (MinusR w (.slice U xs.length V) xs ys ov iv wr)) (fun _ iv _=>xs.length-(intOf iv).toNat)
 case atStart=>exact ⟨0,0,[],Nat.zero_le _,O,rfl,rfl,rfl,Sm.nil,by simpa using O1.out,G1,by simp [ai]⟩
 case round =>
  obtain ⟨k,o,done,hk,ho,rfl,rfl,Y,h2,M,h4,h5⟩:=hrel.out;have a:(done++xs.drop k).length=xs.length:=by simp [Y];omega
  have i:gE wr w.heap.size (.slice U (done++xs.drop k).length V) (done++xs.drop k):=by rw [a];exact M
  have f:=ab Y;have A:=ab h2;have Q:=ab M;have B:=ab h4;have D:=ab h5;clear hrel Y h2 h4 h5;by_cases hlt:k<xs.length
  ·obtain ⟨g,rfl⟩:∃ g,U=some ⟨g,0,none⟩:=by
    obtain ⟨hA,he,e,_,_,h | ⟨g,h,_⟩⟩:=i.open
    ·rcases i.2 with ⟨_,N⟩ | ⟨g,hf,hB,e2,_⟩
     ·rw [a] at N;omega
     ·simp only [Value.slice.injEq] at e2;exact ⟨g,e2.1⟩
    ·simp only [Value.slice.injEq] at e;exact ⟨g,by rw [e.1];exact h⟩
   have E:=(aF SA).get k hlt;obtain ⟨q1,q2,q3⟩:=i.at k (by rw [a];exact hlt);rw [AP done xs k f hlt] at q1;obtain ⟨x,ex⟩:=eX (xs[k]);rw [<- ex] at q1 E;have J:=ab ex;have K:Hid (∀ (r:Nat) (z:Int),z=(r:Int)->gE (wr.setCell ⟨g,k,none⟩ (.int .u32 z)) w.heap.size (.slice (some ⟨g,0,none⟩) xs.length V) ((done++[r])++xs.drop (k+1))):=by
    intro r z hz;have:=q3 r z hz;rw [AS done xs k r f hlt,a] at this;exact this
   have p:Hid (w.heap.size<=g):=by
    have:=Q.out.fresh g rfl;exact this.1
   clear q3 ex i M a;by_cases d:k<ys.length
   ·obtain ⟨b2,I,rfl,hm,c⟩:=aF HB k d;have hy:=(aF SB).get k d;obtain ⟨y,ey⟩:=eX (ys[k]);rw [<- ey] at c hy;have F:Hid (y=ys.getD k 0):=by rw [ey];show _=_;simp [d]
    have hp:wr.cell? ⟨b2,I+k,none⟩=some (.int .u32 (y:Nat)):=B.out.cell c Z;clear ey c;by_cases l:x<o+y
    ·obtain ⟨r,r1,r2,q,s⟩:=jy x (o+y) E O;rw [Int.natCast_add] at r1;have m:r+(o+y)=x+4294967296*1:=by have:=q l;omega
     have b:=ab m;have u:=ab r1;clear q s m;go_wp2;go_roundw
     case rel =>
      refine ⟨k+1,1,done++[r],O,O,zN,rfl,by simp [f.out],A.append (Sm.cons r2 Sm.nil),K r _ (by first | exact r1 | rfl | (have:=b.out;omega)),ah B _ _ p,?_⟩;rw [aO,f,cO ys k,au xs k hlt,<- J,<- F,Nat.pow_succ];exact iW _ _ _ _ y x r (o+y) o 1 D rfl b
     case measure=>simp [intOf];omega
    ·obtain ⟨r,r1,r2,q,s⟩:=jy x (o+y) E O;rw [Int.natCast_add] at r1;have m:r+(o+y)=x+4294967296*0:=by have:=s l;omega
     have b:=ab m;have u:=ab r1;clear q s m;go_wp2;go_roundw
     case rel =>
      refine ⟨k+1,0,done++[r],O,O,zN,rfl,by simp [f.out],A.append (Sm.cons r2 Sm.nil),K r _ (by first | exact r1 | rfl | (have:=b.out;omega)),ah B _ _ p,?_⟩;rw [aO,f,cO ys k,au xs k hlt,<- J,<- F,Nat.pow_succ];exact iW _ _ _ _ y x r (o+y) o 0 D rfl b
     case measure=>simp [intOf];omega
   ·have F:Hid ((0:Nat)=ys.getD k 0):=by show _=_;simp [List.getD,show ¬ k<ys.length from d]
    by_cases l:x<o
    ·obtain ⟨r,r1,r2,q,s⟩:=jy x o E O;have m:r+o=x+4294967296*1:=by have:=q l;omega
     have b:=ab m;have u:=ab r1;clear q s m;go_wp2;go_roundw
     case rel =>
      refine ⟨k+1,1,done++[r],O,O,zN,rfl,by simp [f.out],A.append (Sm.cons r2 Sm.nil),K r _ (by first | exact r1 | rfl | (have:=b.out;omega)),ah B _ _ p,?_⟩;rw [aO,f,cO ys k,au xs k hlt,<- J,<- F,Nat.pow_succ];exact iW _ _ _ _ 0 x r o o 1 D rfl b
     case measure=>simp [intOf];omega
    ·obtain ⟨r,r1,r2,q,s⟩:=jy x o E O;have m:r+o=x+4294967296*0:=by have:=s l;omega
     have b:=ab m;have u:=ab r1;clear q s m;go_wp2;go_roundw
     case rel =>
      refine ⟨k+1,0,done++[r],O,O,zN,rfl,by simp [f.out],A.append (Sm.cons r2 Sm.nil),K r _ (by first | exact r1 | rfl | (have:=b.out;omega)),ah B _ _ p,?_⟩;rw [aO,f,cO ys k,au xs k hlt,<- J,<- F,Nat.pow_succ];exact iW _ _ _ _ 0 x r o o 0 D rfl b
     case measure=>simp [intOf];omega
  ·obtain rfl:k=xs.length:=O
   have hv:ai done=ai xs-ai ys:=by
    have h:=D.out;rw [zT zL,zT C] at h;have hd:=bw A;rw [f] at hd;have t:=P.out;have:o=0:=by
     rcases zP o with N | N
     ·exact N
     ·have e:o=1:=O
      rw [e,Nat.mul_one] at h;omega
    rw [this,Nat.mul_zero] at h;omega
   have R:=Q.out.ws (by rw [List.drop_of_length_le zL,List.append_nil];exact A);rw [List.drop_of_length_le zL,List.append_nil] at R;have HW:=ab R;have HV:=ab hv;have S:=ab (Q.fresh);clear R hv M i a;go_wp2_with fail;refine (fE _ done _ HW).mono ?_;rintro e w2 ⟨v',rfl,rfl,k1,k2⟩;have K1:=ab k1;have K2:=ab k2;clear k1 k2;go_wp2;go_ret;refine ⟨v',rfl,?_,B,?_⟩
   ·have:=K1.out;rw [HV,f] at this;exact this
   ·intro j hj;rw [K2] at hj;exact (S j hj).1
theorem ry (a b:Value) (m n L M:Nat) (w:World) (ha:aQ w a m L) (hb:aQ w b n M) (g:n<=m) (q:L<=10000000000000) :
  Calls Tryz.prog 149 #[a,b] w fun e w'=>qK w (m-n) L e w':=by
 obtain ⟨xs,c,r,i,s⟩:=ha;obtain ⟨ys,d,j,k,t⟩:=hb;have h:=ly d.sm j c.sm O;refine (Df a b xs ys w c d h O O).mono ?_;rintro e w' ⟨l,rfl,f,o,p⟩;rw [i,k] at f;exact ⟨l,rfl,f.mono O,o,p⟩
theorem mN (x:Value) (neg:Bool) (n d L:Nat) (w:World) (f:FV w x neg n d L) :
  Calls Tryz.prog 65 #[x] w fun e k=>e=.returned (.bool (decide (n=0)))/\w.grownBy k none:=by
 obtain ⟨l,c,m,j,o,p,rfl⟩:=f.shape;obtain ⟨up,g,e,h,_⟩:=f;simp only [Value.agg.injEq,Array.mk.injEq,List.cons.injEq,and_true,true_and] at e;obtain ⟨rfl,rfl⟩:=e;obtain ⟨q,r,s,i,u1,u2,u3⟩:=h.shape;simp only [Value.slice.injEq] at i;obtain ⟨rfl,rfl,rfl⟩:=i;unfold maxLen at u3;clear h;by_cases a:n=0
 ·have b:c=0:=u1.2 a;subst b;have hd:decide (n=0)=true:=decide_eq_true a;rw [hd];clear u1 a hd;go_enter Tryz.func65,Tryz.ntmps65
  go_wp2;go_ret;exact ⟨rfl,ag (ae _ _) _⟩
 ·have b:c≠0:=fun e=>a (u1.1 e)
  have hb:(((c:Nat):Int)==0)=false:=zB O;have hd:decide (n=0)=false:=decide_eq_false a;rw [hd];clear u1 a hd b;go_enter Tryz.func65,Tryz.ntmps65
  go_wp2;go_ret;exact ⟨by first | rfl | simp [hb],ag (ae _ _) _⟩
def nO (neg:Bool) (n:Nat):Bool:=!neg && !(decide (n=0))
theorem FV.opp {a:World} {u:Value} {neg:Bool} {d:Nat} (h:FV w (.agg #[.bool neg,u,v]) neg n d L) (hg:w.grownBy a none):FV a (.agg #[.bool (nO neg n),u,v]) (nO neg n) n d L:=by
 obtain ⟨up,b,e,c,f,g,i⟩:=h.keep0 hg;simp only [Value.agg.injEq,Array.mk.injEq,List.cons.injEq,and_true,true_and] at e;obtain ⟨rfl,rfl⟩:=e;refine ⟨_,_,rfl,c,f,g,fun hb=>?_⟩;unfold nO at hb;simp at hb;omega
theorem uS (x:Value) (neg:Bool) (n d L:Nat) (w:World) (m:FV w x neg n d L) :
  Calls Tryz.prog 106 #[x] w fun e G=>gw w (nO neg n) n d L e G:=by
 have o:=ab m;obtain ⟨f,g,h,a,j,k,rfl⟩:=m.shape;clear m;obtain ⟨W,t⟩:=eX ((w.alloc (Obj.cells #[.bool neg,.slice f g h,.slice a j k] 81)).alloc (Obj.cells #[.bool false,.slice none 0 0,.slice none 0 0] 81));have y:Hid (w.grownBy W none):=by rw [t];exact ag (ag (ae _ _) _) _
 have b:Hid (∀ wx,W.grownBy wx none->(wx.cell? ⟨w.heap.size,0,none⟩=some (.bool neg)/\wx.cell? ⟨w.heap.size,1,none⟩=some (.slice f g h)/\wx.cell? ⟨w.heap.size,2,none⟩=some (.slice a j k)/\∀ i,wx.frozen? ⟨w.heap.size,i,none⟩=false)/\(wx.cell? ⟨w.heap.size+1,0,none⟩=some (.bool false)/\wx.cell? ⟨w.heap.size+1,1,none⟩=some (.slice none 0 0)/\wx.cell? ⟨w.heap.size+1,2,none⟩=some (.slice none 0 0)/\∀ i,wx.frozen? ⟨w.heap.size+1,i,none⟩=false)):=by
  intro wx hg;rw [t] at hg;have D:=aT (aa (ag (ae _ none) _) hg);have z:=aT hg;have E:(w.alloc (Obj.cells #[.bool neg,.slice f g h,.slice a j k] 81)).heap.size=w.heap.size+1:=Z
  rw [E] at z;exact ⟨D,z⟩
 cases neg with
 | true =>
  obtain ⟨⟨s0,s1,s2,l⟩,⟨B,r1,r2,c⟩⟩:=b.out W (ae _ _);have p:=l 0;have q:=c 0;have r:=c 1;have s:=c 2;clear l c;go_enter Tryz.func106,Tryz.ntmps106
  go_wp2;refine bodyPost_ret (v:=.agg #[.bool (nO true n),.slice f g h,.slice a j k]) (by simp [results,Tryz.results106,go_sem,nO]) rfl ?_;exact ⟨_,rfl,o.opp (ag (ag (ae _ _) _) _),ag (ag (ae _ _) _) _⟩
 | false =>
  have hb:nO false n = !(decide (n=0)):=by simp [nO]
  go_enter Tryz.func106,Tryz.ntmps106
  go_wp2_with fail;rw [<- t];refine (mN _ false n d L W (o.keep0 y)).mono ?_;rintro e C ⟨rfl,u⟩;obtain ⟨⟨s0,s1,s2,l⟩,⟨B,r1,r2,c⟩⟩:=b.out C u;have p:=l 0;have q:=c 0;have r:=c 1;have s:=c 2;have F:=ab (aa y u);clear l c u;go_wp2;refine bodyPost_ret (v:=.agg #[.bool (nO false n),.slice f g h,.slice a j k]) (by simp [results,Tryz.results106,go_sem,B,r1,r2,nO]) rfl ?_;have A:w.grownBy ((((C.setCell ⟨w.heap.size,0,none⟩ (.bool (!(decide (n=0))))).setCell ⟨w.heap.size+1,0,none⟩ (.bool (!(decide (n=0))))).setCell ⟨w.heap.size+1,1,none⟩ (.slice f g h)).setCell ⟨w.heap.size+1,2,none⟩ (.slice a j k)) none:=ah (ah (ah (ah F _ _ Z) _ _ Z) _ _ Z) _ _ Z;exact ⟨_,rfl,o.opp A,A⟩
end Go.Proofs.YtkbmbmdemajoaaaGreatDoor
