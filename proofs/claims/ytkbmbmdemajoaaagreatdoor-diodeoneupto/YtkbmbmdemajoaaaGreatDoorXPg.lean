/- Contracts. -/
import Derived.Test.YtkbmbmdemajoaaaGreatDoorXPf
import Derived.Lib.ItoaMem
namespace Go.Proofs.YtkbmbmdemajoaaaGreatDoor
open Go.RowKit
set_option linter.unusedVariables false
set_option linter.unusedSimpArgs false
set_option maxHeartbeats 8000000
set_option maxRecDepth 10000
variable {w w':World} {L n b:Nat} {R:Nat->Rat} {v:Value}
theorem Et (x y:Value) (d f:Bool) (a g c i:Nat) (w:World) (r:aQ w x a g) (hy:aQ w y c i) (K:g+i<=10000000000000) :
  Calls Tryz.prog 102 #[.bool d,x,.bool f,y] w fun e w'=>∃ v,e=.returned (.tuple #[.bool (jS d a f c),v])/\aQ w' v (iK d a f c) (max g i+1)/\w.grownBy w' none:=by
 have z:=ab r;have A:=ab hy;obtain ⟨T,U,V,rfl,_⟩:=r.shape;obtain ⟨W,X,Y,rfl,_⟩:=hy.shape;clear r hy;by_cases hb:d=f
 ·have k:jS d a f c=d:=by unfold jS;rw [if_pos hb]
  have l:iK d a f c=a+c:=by unfold iK;rw [if_pos hb]
  rw [k,l];clear k l;have E:(d==f)=true:=by simp [hb]
  clear hb;go_enter Tryz.func102,Tryz.ntmps102
  go_wp2_with fail;refine (DG _ _ a c g i _ z A K).mono ?_;rintro e H ⟨u,rfl,j,m,_⟩;have s:=ab j;have t:=ab m;clear j m;go_wp2;exact bodyPost_ret (v:=.tuple #[.bool d,u]) (by simp [results,Tryz.results102,go_sem]) rfl ⟨u,rfl,s,t⟩
 ·have E:(d==f)=false:=by simp [hb]
  by_cases hlt:a<c
  ·have k:jS d a f c=f:=by unfold jS;rw [if_neg hb,if_pos hlt]
   have l:iK d a f c=c-a:=by unfold iK;rw [if_neg hb,if_pos hlt]
   rw [k,l];clear k l hb;have p:=ab hlt;have C:gG a c = -1:=by unfold gG;rw [if_pos hlt]
   clear hlt;go_enter Tryz.func102,Tryz.ntmps102
   go_wp2_with fail;refine (jt _ _ a c g i _ z A).mono ?_;rintro e H ⟨rfl,q,rfl⟩;rw [C];clear C;go_wp2_with fail;refine (ry _ _ c a i g _ (A.keep0 (aP q)) (z.keep0 (aP q)) (Nat.le_of_lt p) O).mono ?_;rintro e Q ⟨u,rfl,j,m,_⟩;have s:=ab (j.mono (show i<=max g i+1 by omega));have t:=ab (aa (aP q) m);clear j m;go_wp2;exact bodyPost_ret (v:=.tuple #[.bool f,u]) (by simp [results,Tryz.results102,go_sem]) rfl ⟨u,rfl,s,t⟩
  ·have k:jS d a f c=(d && decide (0<a-c)):=by unfold jS;rw [if_neg hb,if_neg hlt]
   have l:iK d a f c=a-c:=by unfold iK;rw [if_neg hb,if_neg hlt]
   rw [k,l];clear k l hb;have p:Hid (c<=a):=by show c<=a;omega
   have C:0<=gG a c:=by unfold gG;rw [if_neg hlt];split<;>decide
   obtain ⟨o,D⟩:=eX (gG a c);have M:o<=1:=by rw [D];unfold gG;rw [if_neg hlt];split<;>decide
   rw [<- D] at C;have N:=ab D;clear hlt D;have P:(decide (o<0))=false:=decide_eq_false O;go_enter Tryz.func102,Tryz.ntmps102
   go_wp2_with fail;refine (jt _ _ a c g i _ z A).mono ?_;rintro e H ⟨rfl,q,rfl⟩;rw [<- N];go_wp2_with fail;refine (ry _ _ a c g i _ (z.keep0 (aP q)) (A.keep0 (aP q)) p O).mono ?_;rintro e Q ⟨u,rfl,j,m,_⟩;obtain ⟨I,B,J,rfl,G,x2,S⟩:=j.shape;unfold maxLen at S;have s:=ab (j.mono (show g<=max g i+1 by omega));have t:=ab (aa (aP q) m);have r:decide (0<a-c)=decide ((0:Int)<(B:Nat)):=by
    rw [decide_eq_decide];constructor
    ·intro h;have:B≠0:=fun e=>by have:=G.1 e;omega
     omega
    ·intro h;have:a-c≠0:=fun e=>by have:=G.2 e;omega
     omega
   have F:=ab r;clear j m G r;cases d with
   | false =>
    go_wp2;exact bodyPost_ret (v:=.tuple #[.bool false,.slice I B J]) (by simp [results,Tryz.results102,go_sem]) rfl ⟨_,rfl,s,t⟩
   | true =>
    go_wp2;refine bodyPost_ret (v:=.tuple #[.bool (decide ((0:Int)<(B:Nat))),.slice I B J]) (by first | (simp [results,Tryz.results102,go_sem];done) | (simp [results,Tryz.results102,go_sem];rfl)) rfl ⟨_,?_,s,t⟩;rw [Bool.true_and,F]
def yZ (b1:Bool) (n1 d1:Nat) (b2:Bool) (n2 d2:Nat):Bool×Nat×Nat :=
 aY (DD b1 n1 d1 b2 n2 d2) (jM b1 n1 d1 b2 n2 d2 / Nat.gcd (jM b1 n1 d1 b2 n2 d2) (Nat.gcd d1 d2)) (d1 / Nat.gcd d1 d2*(d2 / Nat.gcd (jM b1 n1 d1 b2 n2 d2) (Nat.gcd d1 d2)))
theorem pN (y C m K:Option Addr) (z A D E F I M N:Nat) (q r:Bool) (S X s P J p:Nat) (w:World) (hx:FV w (.agg #[.bool q,.slice y z A,.slice m F I]) q S X s) (hy:FV w (.agg #[.bool r,.slice C D E,.slice K M N]) r P J p) (hl:s+p<=4000000000000)
  (hwh:∀ wx:World,(Calls Tryz.prog 101 #[.agg #[.bool q,.slice y z A,.slice m F I]] wx fun e w'=>e=.returned (.bool false)/\wx.grownBy w' none)∨((Calls Tryz.prog 101 #[.agg #[.bool q,.slice y z A,.slice m F I]] wx fun e w'=>e=.returned (.bool true)/\wx.grownBy w' none)/\∀ wx:World,Calls Tryz.prog 101 #[.agg #[.bool r,.slice C D E,.slice K M N]] wx fun e w'=>e=.returned (.bool false)/\wx.grownBy w' none)) :
  Calls Tryz.prog 61 #[.agg #[.bool q,.slice y z A,.slice m F I],.agg #[.bool r,.slice C D E,.slice K M N]] w fun e w'=>gw w (yZ q S X r P J).1 (yZ q S X r P J).2.1 (yZ q S X r P J).2.2 (s+p+2) e w':=by
 have HX:=ab hx;have HY:=ab hy;obtain ⟨hw,hC⟩:=hx.down_le;obtain ⟨ml,hs⟩:=hy.down_le;have hE:=hx.cop;have hF:=hy.cop;have NX:Hid (aQ w (.slice y z A) S s):=by
  obtain ⟨up,mm,e,h1,_⟩:=hx;simp only [Value.agg.injEq,Array.mk.injEq,List.cons.injEq,and_true,true_and] at e;rw [e.1];exact h1
 have NY:Hid (aQ w (.slice C D E) P p):=by
  obtain ⟨up,mm,e,h1,_⟩:=hy;simp only [Value.agg.injEq,Array.mk.injEq,List.cons.injEq,and_true,true_and] at e;rw [e.1];exact h1
 clear hx hy;obtain ⟨G,eG⟩:=eX (Nat.gcd X J);have hG:0<G:=by rw [eG];exact Nat.gcd_pos_of_pos_left _ hw
 obtain ⟨Q,hu⟩:=eX (X / G);obtain ⟨Y1,hv⟩:=eX (J / G);obtain ⟨T,eT⟩:=eX (iK q (S*Y1) r (P*Q));obtain ⟨B,eB⟩:=eX (jS q (S*Y1) r (P*Q));obtain ⟨H,eH⟩:=eX (Nat.gcd T G);have hH:0<H:=by rw [eH];exact Nat.gcd_pos_of_pos_right _ hG
 obtain ⟨U,eU⟩:=eX (T / H);obtain ⟨V,eV⟩:=eX (J / H);have qs:Q<4294967296^(s+1):=by rw [hu];exact mW (Nat.le_trans (Nat.div_le_self _ _) hC)
 have mp:Y1<4294967296^(p+1):=by rw [hv];exact mW (Nat.le_trans (Nat.div_le_self _ _) hs)
 have hV:V<4294967296^(p+1):=by rw [eV];exact mW (Nat.le_trans (Nat.div_le_self _ _) hs)
 have yn:yZ q S X r P J=aY B U (Q*V):=by rw [eB,eU,eV,eH,eT,hu,hv,eG];rfl
 obtain ⟨hV0,hD⟩:0<Q*V/\(U=0∨Nat.gcd U (Q*V)=1):=by
  rw [eU,eV,eH,eT,hu,hv,eG];exact ⟨(uW q r hE hF hw ml).1,.inr (uW q r hE hF hw ml).2⟩
 have yv:=ab hD;have EG:=ab eG;have ms:=ab hu;have mt:=ab hv;have ET:=ab eT;have EB:=ab eB;have EH:=ab eH;have EU:=ab eU;have EV:=ab eV;rw [yn];clear yn hD eG hu hv eT eB eH eU eV hE hF hC hs;obtain ⟨W,hW⟩:=eX (((w.alloc (Obj.cells #[.bool q,.slice y z A,.slice m F I] 81)).alloc (Obj.cells #[.bool r,.slice C D E,.slice K M N] 81)).alloc (Obj.cells #[.bool false,.slice none 0 0,.slice none 0 0] 81));have GW:Hid (w.grownBy W none):=by rw [hW];exact ag (ag (ag (ae _ _) _) _) _
 have NW:Hid (∀ wx,W.grownBy wx none->bP wx (w.heap.size+1+1)):=by
  intro wx hg;rw [hW] at hg;have:=bC hg;simpa using this
 have a:Hid (∀ wx,W.grownBy wx none->(wx.cell? ⟨w.heap.size,0,none⟩=some (.bool q)/\wx.cell? ⟨w.heap.size,1,none⟩=some (.slice y z A)/\wx.cell? ⟨w.heap.size,2,none⟩=some (.slice m F I))/\(wx.cell? ⟨w.heap.size+1,0,none⟩=some (.bool r)/\wx.cell? ⟨w.heap.size+1,1,none⟩=some (.slice C D E)/\wx.cell? ⟨w.heap.size+1,2,none⟩=some (.slice K M N))/\(wx.cell? ⟨w.heap.size+1+1,0,none⟩=some (.bool false)/\wx.cell? ⟨w.heap.size+1+1,1,none⟩=some (.slice none 0 0)/\wx.cell? ⟨w.heap.size+1+1,2,none⟩=some (.slice none 0 0))/\∀ i,wx.frozen? ⟨w.heap.size+1+1,i,none⟩=false):=by
  intro wx hg;rw [hW] at hg;have a1:=aG (aa (ag (ag (ae _ none) _) _) hg);have a2:=aG (w:=w.alloc (Obj.cells #[.bool q,.slice y z A,.slice m F I] 81)) (aa (ag (ae _ none) _) hg);have a3:=aT hg;have e3:((w.alloc (Obj.cells #[.bool q,.slice y z A,.slice m F I] 81)).alloc (Obj.cells #[.bool r,.slice C D E,.slice K M N] 81)).heap.size=w.heap.size+1+1:=Z
  rw [e3] at a3;refine ⟨a1,by simpa using a2,?_,?_⟩
  ·exact ⟨a3.1,a3.2.1,a3.2.2.1⟩
  ·exact a3.2.2.2
 obtain ⟨⟨s0,s1,s2⟩,⟨t0,t1,t2⟩,⟨r0,r1,r2⟩,rf⟩:=a.out W (ae _ _);clear rf;have Ho:¬ w.heap.size+1+1=w.heap.size:=O
 have Hp:¬ w.heap.size=w.heap.size+1+1:=O
 have Hq:¬ w.heap.size+1+1=w.heap.size+1:=O
 have Ha:=ab hwh;clear hwh;go_enter Tryz.func61,Tryz.ntmps61
 go_upto_region 1 with fail;rw [<- hW];clear hW;go_cut [18] (fun s18 wx=>Hid (s18=.bool false/\W.grownBy wx none))
 case first =>
  go_wp2_with fail;rcases Ha.out W with h | ⟨h,h2⟩
  ·refine h.mono ?_;rintro e w1 ⟨rfl,g1⟩;go_wp2_with fail;go_meet
   exact ⟨rfl,g1⟩
  ·refine h.mono ?_;rintro e w1 ⟨rfl,g1⟩;obtain ⟨⟨a0,a1,a2⟩,⟨a3,a4,a5⟩,_⟩:=a.out w1 g1;go_wp2_with fail;refine (h2 _).mono ?_;rintro e w2 ⟨rfl,g2⟩;go_wp2_with fail;go_meet
   exact ⟨rfl,aa g1 g2⟩
 case rest =>
  obtain ⟨rfl,GG⟩:=hcut.out;clear hcut s0 s1 s2 t0 t1 t2 r0 r1 r2;obtain ⟨⟨s0,s1,s2⟩,⟨s3,s4,s5⟩,_⟩:=a.out wc GG;go_wp2;go_cut [7] (fun s7 wx=>Hid (W.grownBy wx none/\(∃ o l c,s7=.slice o l c)/\aQ wx s7 G (s+p+1)))
  case first =>
   go_region_held3 (fun w'=>w'.cell? ⟨w.heap.size,0,none⟩=some (.bool q)/\w'.cell? ⟨w.heap.size,1,none⟩=some (.slice y z A)/\w'.cell? ⟨w.heap.size,2,none⟩=some (.slice m F I)/\w'.cell? ⟨w.heap.size+1,0,none⟩=some (.bool r)/\w'.cell? ⟨w.heap.size+1,1,none⟩=some (.slice C D E)/\w'.cell? ⟨w.heap.size+1,2,none⟩=some (.slice K M N)) (go_keep)
    (first | (go_at_call_of 77 (Value.agg #[.bool q,.slice y z A,.slice m F I]);refine (fB _ q S X s _ (HX.keep0 (aa GW zF))).mono ?_;rintro e wa ⟨va,rfl,pa,ga⟩;obtain ⟨ao,al,ac,rfl,_,_,_⟩:=pa.shape;have d:=aa kw ga;have GG:W.grownBy wa none:=aa zF ga;(try have pb:=pb.keep0 d);(try have k:=k.keep0 d);clear d;obtain ⟨⟨hI,hJ,hK⟩,⟨hL,hM,hN⟩,⟨hQ,hR,hS⟩,f⟩:=a.out wa GG;have Y:=f 0;have he:=f 1;have hf:=f 2;clear f) | (go_at_call_of 77 (Value.agg #[.bool r,.slice C D E,.slice K M N]);refine (fB _ r P J p _ (HY.keep0 (aa GW zF))).mono ?_;rintro e wb ⟨vb,rfl,pb,gb⟩;obtain ⟨bo,bl,bc,rfl,_,_,_⟩:=pb.shape;have d:=aa kw gb;have GG:W.grownBy wb none:=aa zF gb;(try have pa:=pa.keep0 d);(try have k:=k.keep0 d);clear d;obtain ⟨⟨hT,hX,hY⟩,⟨ka,kb,kf⟩,⟨kk,kz,kF⟩,g⟩:=a.out wb GG;have hj:=g 0;have hk:=g 1;have hm:=g 2;clear g) | (go_at_call 103;refine (nY _ _ X J (s+p+1) _ ((pa.keep0 kw).mono O) ((pb.keep0 kw).mono O) (.inl hw) O).mono ?_;rintro e wx ⟨vx,rfl,k,gx⟩;rw [<- EG] at k;obtain ⟨xo,xl,xc,rfl,_,_,_⟩:=k.shape;have d:=aa kw gx;have GG:W.grownBy wx none:=aa zF gx;(try have pa:=pa.keep0 d);(try have pb:=pb.keep0 d);clear d;obtain ⟨⟨kH,kN,qa⟩,⟨qb,qc,qf⟩,⟨ql,qo,qq⟩,j⟩:=a.out wx GG;have hp:=j 0;have hq:=j 1;have hr:=j 2;clear j))
   all_goals (go_wp2_with fail;go_meet;exact ⟨zF,⟨_,_,_,rfl⟩,(k.keep0 kw)⟩)
  case rest =>
   clear GG s0 s1 s2 s3 s4 s5;obtain ⟨GG,⟨go,gl,gc,rfl⟩,S7⟩:=hcut.out;clear hcut;obtain ⟨⟨s0,s1,s2⟩,⟨s3,s4,s5⟩,_⟩:=a.out wc GG;go_wp2;go_cut [8,9] (fun s8 s9 wx=>Hid (W.grownBy wx none/\(∃ o l c,s8=.slice o l c)/\(∃ o l c,s9=.slice o l c)/\aQ wx s8 Q (s+p+1)/\aQ wx s9 Y1 (s+p+1)/\aQ wx (.slice go gl gc) G (s+p+1)))
   case first =>
    go_region_held3 (fun w'=>w'.cell? ⟨w.heap.size,0,none⟩=some (.bool q)/\w'.cell? ⟨w.heap.size,1,none⟩=some (.slice y z A)/\w'.cell? ⟨w.heap.size,2,none⟩=some (.slice m F I)/\w'.cell? ⟨w.heap.size+1,0,none⟩=some (.bool r)/\w'.cell? ⟨w.heap.size+1,1,none⟩=some (.slice C D E)/\w'.cell? ⟨w.heap.size+1,2,none⟩=some (.slice K M N)) (go_keep)
     (first | (go_at_call_of 77 (Value.agg #[.bool q,.slice y z A,.slice m F I]);refine (fB _ q S X s _ (HX.keep0 (aa GW zF))).mono ?_;rintro e wa ⟨va,rfl,pa,ga⟩;obtain ⟨ao,al,ac,rfl,_,_,_⟩:=pa.shape;have d:=aa kw ga;have GG:W.grownBy wa none:=aa zF ga;(try have pb:=pb.keep0 d);(try have k:=k.keep0 d);(try have x:=x.keep0 d);(try have S7:=S7.keep0 d);clear d;obtain ⟨⟨hI,hJ,hK⟩,⟨hL,hM,hN⟩,⟨hQ,hR,hS⟩,f⟩:=a.out wa GG;have Y:=f 0;have he:=f 1;have hf:=f 2;clear f) | (go_at_call_of 77 (Value.agg #[.bool r,.slice C D E,.slice K M N]);refine (fB _ r P J p _ (HY.keep0 (aa GW zF))).mono ?_;rintro e wb ⟨vb,rfl,pb,gb⟩;obtain ⟨bo,bl,bc,rfl,_,_,_⟩:=pb.shape;have d:=aa kw gb;have GG:W.grownBy wb none:=aa zF gb;(try have pa:=pa.keep0 d);(try have k:=k.keep0 d);(try have x:=x.keep0 d);(try have S7:=S7.keep0 d);clear d;obtain ⟨⟨hT,hX,hY⟩,⟨ka,kb,kf⟩,⟨kk,kz,kF⟩,g⟩:=a.out wb GG;have hj:=g 0;have hk:=g 1;have hm:=g 2;clear g) | (go_at_call_of 104 (Value.slice ao al ac);refine (fO _ _ X G (s+p+1) _ ((pa.keep0 kw).mono O) (S7.keep0 kw) hG O).mono ?_;rintro e wx ⟨vx,rfl,k,gx⟩;rw [<- ms] at k;obtain ⟨xo,xl,xc,rfl,_,_,_⟩:=k.shape;have d:=aa kw gx;have GG:W.grownBy wx none:=aa zF gx;(try have pa:=pa.keep0 d);(try have pb:=pb.keep0 d);(try have x:=x.keep0 d);(try have S7:=S7.keep0 d);clear d;obtain ⟨⟨kH,kN,qa⟩,⟨qb,qc,qf⟩,⟨ql,qo,qq⟩,j⟩:=a.out wx GG;have hp:=j 0;have hq:=j 1;have hr:=j 2;clear j) | (go_at_call_of 104 (Value.slice bo bl bc);refine (fO _ _ J G (s+p+1) _ ((pb.keep0 kw).mono O) (S7.keep0 kw) hG O).mono ?_;rintro e wy ⟨vy,rfl,x,gy⟩;rw [<- mt] at x;obtain ⟨yo,yl,yc,rfl,_,_,_⟩:=x.shape;have d:=aa kw gy;have GG:W.grownBy wy none:=aa zF gy;(try have pa:=pa.keep0 d);(try have pb:=pb.keep0 d);(try have k:=k.keep0 d);(try have S7:=S7.keep0 d);clear d;obtain ⟨⟨Hb,Hc,Hd⟩,⟨He,Hf,Hg⟩,⟨Hh,Hi,Hj⟩,u⟩:=a.out wy GG;have jg:=u 0;have jk:=u 1;have jp:=u 2;clear u))
    all_goals (go_wp2_with fail;go_meet;exact ⟨zF,⟨_,_,_,rfl⟩,⟨_,_,_,rfl⟩,(k.keep0 kw),(x.keep0 kw),(S7.keep0 kw)⟩)
   case rest =>
    clear GG s0 s1 s2 s3 s4 s5 S7;obtain ⟨GG,⟨ho,Hk,hc,rfl⟩,⟨io,il,ic,rfl⟩,S8,S9,S7⟩:=hcut.out;clear hcut;obtain ⟨⟨s0,s1,s2⟩,⟨s3,s4,s5⟩,_⟩:=a.out wc GG;go_wp2;go_cut [10,11] (fun s10 s11 wx=>Hid (W.grownBy wx none/\s10=.bool B/\(∃ o l c,s11=.slice o l c)/\aQ wx s11 T (s+p+2)/\aQ wx (.slice go gl gc) G (s+p+1)/\aQ wx (.slice ho Hk hc) Q (s+p+1)))
    case first =>
     go_region_held3 (fun w'=>w'.cell? ⟨w.heap.size,0,none⟩=some (.bool q)/\w'.cell? ⟨w.heap.size,1,none⟩=some (.slice y z A)/\w'.cell? ⟨w.heap.size,2,none⟩=some (.slice m F I)/\w'.cell? ⟨w.heap.size+1,0,none⟩=some (.bool r)/\w'.cell? ⟨w.heap.size+1,1,none⟩=some (.slice C D E)/\w'.cell? ⟨w.heap.size+1,2,none⟩=some (.slice K M N)) (go_keep)
      (first | (go_at_call_of 76 (Value.slice y z A);refine (eP _ _ S Y1 s (p+1) _ (NX.keep0 (aa GW zF)) ((S9.keep0 kw).tight mp) O).mono ?_;rintro e wa ⟨va,rfl,pa,ga,_⟩;obtain ⟨ao,al,ac,rfl,_,_,_⟩:=pa.shape;have d:=aa kw ga;have GG:W.grownBy wa none:=aa zF ga;(try have pb:=pb.keep0 d);(try have k:=k.keep0 d);(try have S7:=S7.keep0 d);(try have S8:=S8.keep0 d);(try have S9:=S9.keep0 d);clear d;obtain ⟨⟨hI,hJ,hK⟩,⟨hL,hM,hN⟩,⟨hQ,hR,hS⟩,f⟩:=a.out wa GG;have Y:=f 0;have he:=f 1;have hf:=f 2;clear f) | (go_at_call_of 76 (Value.slice C D E);refine (eP _ _ P Q p (s+1) _ (NY.keep0 (aa GW zF)) ((S8.keep0 kw).tight qs) O).mono ?_;rintro e wb ⟨vb,rfl,pb,gb,_⟩;obtain ⟨bo,bl,bc,rfl,_,_,_⟩:=pb.shape;have d:=aa kw gb;have GG:W.grownBy wb none:=aa zF gb;(try have pa:=pa.keep0 d);(try have k:=k.keep0 d);(try have S7:=S7.keep0 d);(try have S8:=S8.keep0 d);(try have S9:=S9.keep0 d);clear d;obtain ⟨⟨hT,hX,hY⟩,⟨ka,kb,kf⟩,⟨kk,kz,kF⟩,g⟩:=a.out wb GG;have hj:=g 0;have hk:=g 1;have hm:=g 2;clear g) | (go_at_call 102;refine (Et _ _ q r (S*Y1) (s+(p+1)) (P*Q) (p+(s+1)) _ (pa.keep0 kw) (pb.keep0 kw) O).mono ?_;rintro e wx ⟨vx,rfl,k,gx⟩;rw [<- ET] at k;rw [<- EB];obtain ⟨xo,xl,xc,rfl,_,_,_⟩:=k.shape;have d:=aa kw gx;have GG:W.grownBy wx none:=aa zF gx;(try have pa:=pa.keep0 d);(try have pb:=pb.keep0 d);(try have S7:=S7.keep0 d);(try have S8:=S8.keep0 d);(try have S9:=S9.keep0 d);clear d;obtain ⟨⟨kH,kN,qa⟩,⟨qb,qc,qf⟩,⟨ql,qo,qq⟩,j⟩:=a.out wx GG;have hp:=j 0;have hq:=j 1;have hr:=j 2;clear j))
     all_goals (go_wp2_with fail;go_meet;exact ⟨zF,rfl,⟨_,_,_,rfl⟩,(k.keep0 kw).mono O,(S7.keep0 kw),(S8.keep0 kw)⟩)
    case rest =>
     clear GG s0 s1 s2 s3 s4 s5 S7 S8 S9;obtain ⟨GG,rfl,⟨jo,jl,jc,rfl⟩,S11,S7,S8⟩:=hcut.out;clear hcut;obtain ⟨⟨s0,s1,s2⟩,⟨s3,s4,s5⟩,_⟩:=a.out wc GG;go_wp2_with fail;refine (nY _ _ T G (s+p+2) _ S11 (S7.mono O) (.inr hG) O).mono ?_;rintro e mo ⟨v12,rfl,hz,hA⟩;rw [<- EH] at hz;obtain ⟨ko,kl,kc,rfl,_,_,_⟩:=hz.shape;have t:=hz;have hB:=S11.keep0 hA;have jv:=S8.keep0 hA;have mc:W.grownBy mo none:=aa GG hA;clear GG s0 s1 s2 s3 s4 s5 S11 S7 S8 hA hz;have GG:=mc;have S11:=hB;have S8:=jv;clear mc hB jv;obtain ⟨⟨s0,s1,s2⟩,⟨s3,s4,s5⟩,_⟩:=a.out mo GG;go_wp2;go_region_held3 (fun w'=>w'.cell? ⟨w.heap.size,0,none⟩=some (.bool q)/\w'.cell? ⟨w.heap.size,1,none⟩=some (.slice y z A)/\w'.cell? ⟨w.heap.size,2,none⟩=some (.slice m F I)/\w'.cell? ⟨w.heap.size+1,0,none⟩=some (.bool r)/\w'.cell? ⟨w.heap.size+1,1,none⟩=some (.slice C D E)/\w'.cell? ⟨w.heap.size+1,2,none⟩=some (.slice K M N)) (go_keep)
      (first | (go_at_call_of 104 (Value.slice jo jl jc);refine (fO _ _ T H (s+p+2) _ (S11.keep0 kw) ((t.keep0 kw).mono O) hH O).mono ?_;rintro e wa ⟨va,rfl,pa,ga⟩;rw [<- EU] at pa;obtain ⟨ao,al,ac,rfl,_,_,_⟩:=pa.shape;have d:=aa kw ga;have GG:W.grownBy wa none:=aa zF ga;(try have pb:=pb.keep0 d);(try have k:=k.keep0 d);(try have x:=x.keep0 d);(try have S11:=S11.keep0 d);(try have t:=t.keep0 d);(try have S8:=S8.keep0 d);clear d;obtain ⟨⟨hI,hJ,hK⟩,⟨hL,hM,hN⟩,⟨hQ,hR,hS⟩,f⟩:=a.out wa GG;have Y:=f 0;have he:=f 1;have hf:=f 2;clear f) | (go_at_call_of 77 (Value.agg #[.bool r,.slice C D E,.slice K M N]);refine (fB _ r P J p _ (HY.keep0 (aa GW zF))).mono ?_;rintro e wb ⟨vb,rfl,pb,gb⟩;obtain ⟨bo,bl,bc,rfl,_,_,_⟩:=pb.shape;have d:=aa kw gb;have GG:W.grownBy wb none:=aa zF gb;(try have pa:=pa.keep0 d);(try have k:=k.keep0 d);(try have x:=x.keep0 d);(try have S11:=S11.keep0 d);(try have t:=t.keep0 d);(try have S8:=S8.keep0 d);clear d;obtain ⟨⟨hT,hX,hY⟩,⟨ka,kb,kf⟩,⟨kk,kz,kF⟩,g⟩:=a.out wb GG;have hj:=g 0;have hk:=g 1;have hm:=g 2;clear g) | (go_at_call_of 104 (Value.slice bo bl bc);refine (fO _ _ J H (s+p+2) _ ((pb.keep0 kw).mono O) (t.keep0 kw) hH O).mono ?_;rintro e wx ⟨vx,rfl,k,gx⟩;rw [<- EV] at k;obtain ⟨xo,xl,xc,rfl,_,_,_⟩:=k.shape;have d:=aa kw gx;have GG:W.grownBy wx none:=aa zF gx;(try have pa:=pa.keep0 d);(try have pb:=pb.keep0 d);(try have x:=x.keep0 d);(try have S11:=S11.keep0 d);(try have t:=t.keep0 d);(try have S8:=S8.keep0 d);clear d;obtain ⟨⟨kH,kN,qa⟩,⟨qb,qc,qf⟩,⟨ql,qo,qq⟩,j⟩:=a.out wx GG;have hp:=j 0;have hq:=j 1;have hr:=j 2;clear j) | (go_at_call 76;refine (eP _ _ Q V (s+1) (p+1) _ ((S8.keep0 kw).tight qs) ((k.keep0 kw).tight hV) O).mono ?_;rintro e wy ⟨vy,rfl,x,gy,_⟩;obtain ⟨yo,yl,yc,rfl,_,_,_⟩:=x.shape;have d:=aa kw gy;have GG:W.grownBy wy none:=aa zF gy;(try have pa:=pa.keep0 d);(try have pb:=pb.keep0 d);(try have k:=k.keep0 d);(try have S11:=S11.keep0 d);(try have t:=t.keep0 d);(try have S8:=S8.keep0 d);clear d;obtain ⟨⟨Hb,Hc,Hd⟩,⟨He,Hf,Hg⟩,⟨Hh,Hi,Hj⟩,u⟩:=a.out wy GG;have jg:=u 0;have jk:=u 1;have jp:=u 2;clear u) | (go_at_call 105;refine (ku _ _ _ U (Q*V) (s+p+2) _ (pa.keep0 kw) ((x.keep0 kw).mono O) hV0 yv).mono ?_;rintro e wf ⟨v6,rfl,f1,f2⟩;obtain ⟨fo,fl,fc,Hl,Hm,Hn,rfl⟩:=f1.shape;have GG:W.grownBy wf none:=aa zF f2;obtain ⟨⟨g0,g1,g2⟩,⟨g3,g4,g5⟩,⟨g6,g7,g8⟩,gf⟩:=a.out wf GG;have Hr:=gf 0;have Hs:=gf 1;have Ht:=gf 2;clear gf))
     all_goals
      have F1:=ab f1;have md:=ab GG;clear f1 f2;go_wp2;refine bodyPost_ret (v:=.agg #[.bool (aY B U (Q*V)).1,.slice fo fl fc,.slice Hl Hm Hn]) (by first | (simp [results,Tryz.results61,go_sem,g6,g7,g8];done) | (simp [results,Tryz.results61,go_sem,g6,g7,g8];rfl)) rfl ?_;exact ⟨_,rfl,F1.other (NW wf md) bH,ah (ah (ah (aa GW md) _ _ (by simp;omega)) _ _ (by simp;omega)) _ _ (by simp;omega)⟩
theorem vg (h m:Option Addr) (j k o p:Nat) (c d:Bool) (f q g r:Nat) (w:World) (E:aQ w (.slice h j k) f q) (hy:aQ w (.slice m o p) g r) (s:c=true->0<f) (t:d=true->0<g) (hl:q+r<=4000000000000) :
  Calls Tryz.prog 61 #[.agg #[.bool c,.slice h j k,.slice none 0 0],.agg #[.bool d,.slice m o p,.slice none 0 0]] w fun e w'=>gw w (jS c f d g) (iK c f d g) 1 (q+r+2) e w':=by
 have V:=ab E;have X:=ab hy;have Y:=ab (zx c f d g s t);clear E hy s t;obtain ⟨W,u⟩:=eX (((w.alloc (Obj.cells #[.bool c,.slice h j k,.slice none 0 0] 81)).alloc (Obj.cells #[.bool d,.slice m o p,.slice none 0 0] 81)).alloc (Obj.cells #[.bool false,.slice none 0 0,.slice none 0 0] 81));have z:Hid (w.grownBy W none):=by rw [u];exact ag (ag (ag (ae _ _) _) _) _
 have NW:Hid (∀ wx,W.grownBy wx none->bP wx (w.heap.size+1+1)):=by
  intro wx hg;rw [u] at hg;have:=bC hg;simpa using this
 have a:Hid (∀ wx,W.grownBy wx none->(wx.cell? ⟨w.heap.size,0,none⟩=some (.bool c)/\wx.cell? ⟨w.heap.size,1,none⟩=some (.slice h j k)/\wx.cell? ⟨w.heap.size,2,none⟩=some (.slice none 0 0))/\(wx.cell? ⟨w.heap.size+1,0,none⟩=some (.bool d)/\wx.cell? ⟨w.heap.size+1,1,none⟩=some (.slice m o p)/\wx.cell? ⟨w.heap.size+1,2,none⟩=some (.slice none 0 0))/\(wx.cell? ⟨w.heap.size+1+1,0,none⟩=some (.bool false)/\wx.cell? ⟨w.heap.size+1+1,1,none⟩=some (.slice none 0 0)/\wx.cell? ⟨w.heap.size+1+1,2,none⟩=some (.slice none 0 0))/\∀ i,wx.frozen? ⟨w.heap.size+1+1,i,none⟩=false):=by
  intro wx hg;rw [u] at hg;have F:=aG (aa (ag (ag (ae _ none) _) _) hg);have G:=aG (w:=w.alloc (Obj.cells #[.bool c,.slice h j k,.slice none 0 0] 81)) (aa (ag (ae _ none) _) hg);have l:=aT hg;have e3:((w.alloc (Obj.cells #[.bool c,.slice h j k,.slice none 0 0] 81)).alloc (Obj.cells #[.bool d,.slice m o p,.slice none 0 0] 81)).heap.size=w.heap.size+1+1:=Z
  rw [e3] at l;refine ⟨F,by simpa using G,?_,?_⟩
  ·exact ⟨l.1,l.2.1,l.2.2.1⟩
  ·exact l.2.2.2
 obtain ⟨⟨s0,s1,s2⟩,⟨t0,t1,t2⟩,⟨r0,r1,r2⟩,rf⟩:=a.out W (ae _ _);clear rf;have H:¬ w.heap.size+1+1=w.heap.size:=O
 have I:¬ w.heap.size=w.heap.size+1+1:=O
 have J:¬ w.heap.size+1+1=w.heap.size+1:=O
 go_enter Tryz.func61,Tryz.ntmps61
 go_wp2_with fail;rw [<- u];clear u;refine (cI _ _ _ _ _).mono ?_;rintro e w1 ⟨rfl,B⟩;have G1:=ab B;obtain ⟨⟨a0,F,G⟩,⟨l,a4,a5⟩,_⟩:=a.out w1 B;clear B;go_wp2_with fail;refine (cI _ _ _ _ _).mono ?_;rintro e w2 ⟨rfl,K⟩;have x:=ab (aa G1 K);obtain ⟨⟨c0,c1,c2⟩,⟨c3,c4,c5⟩,_⟩:=a.out w2 x;clear K;go_wp2_with fail;refine (Et _ _ c d f q g r _ (V.keep0 (aa z x)) (X.keep0 (aa z x)) O).mono ?_;rintro e C ⟨v3,rfl,D,M⟩;obtain ⟨N,P,Q,rfl,_,_,_⟩:=D.shape;have P1:=ab D;have A:=ab (aa x M);obtain ⟨⟨k0,k1,k2⟩,⟨k3,k4,k5⟩,⟨S,T,U⟩,y⟩:=a.out C A;have he:=y 0;have hf:=y 1;have hj:=y 2;clear y D M;go_wp2;refine bodyPost_ret (v:=.agg #[.bool (jS c f d g),.slice N P Q,.slice none 0 0]) (by first | (simp [results,Tryz.results61,go_sem,S,T,U];done) | (simp [results,Tryz.results61,go_sem,S,T,U];rfl)) rfl ?_;refine ⟨_,rfl,?_,ah (ah (ah (aa z A) _ _ (by simp;omega)) _ _ (by simp;omega)) _ _ (by simp;omega)⟩;have hF:FV C (.agg #[.bool (jS c f d g),.slice N P Q,.slice none 0 0]) (jS c f d g) (iK c f d g) 1 (q+r+2) :=
  ⟨_,_,rfl,P1.mono O,.inl ⟨rfl,rfl⟩,Nat.gcd_one_right _,Y⟩
 exact hF.other (NW C A) bH
theorem xB {b:Bool} (h:b=true->0<n):aY b n 1=(b,n,1):=by
 unfold aY;by_cases a:n=0
 ·subst a;cases b
  ·rfl
  ·exact absurd (h rfl) O
 ·rw [if_neg O,Nat.gcd_one_right,Nat.div_one,Nat.div_one]
theorem mg (x y:Value) (p q:Rat) (a c:Nat) (w:World) (J:FQ w x p a) (hy:FQ w y q c) (i:a+c<=4000000000000) :
  Calls Tryz.prog 61 #[x,y] w fun e w'=>FQE w (p+q) (a+c+2) e w':=by
 have K:=J;have j:=hy;obtain ⟨up,M,rfl,N,m,h3,P⟩:=J;obtain ⟨T,o,rfl,Q,r,k3,S⟩:=hy;obtain ⟨s,t,u,rfl,_⟩:=N.shape;obtain ⟨z,A,B,rfl,_⟩:=Q.shape;rcases m with ⟨rfl,hd⟩ | ⟨m,hd⟩
 ·rcases r with ⟨rfl,kd⟩ | ⟨r,kd⟩
  ·refine (vg s z t u A B _ _ _ a _ c w N Q P S i).mono ?_;intro e w' h;have f:=xB (zx (rB p) (rN p) (rB q) (rN q) P S);refine gw.q (b:=jS (rB p) (rN p) (rB q) (rN q)) (n:=iK (rB p) (rN p) (rB q) (rN q)) (d:=1) ?_ (by rw [f];exact h);rw [zy,fp,fp,Rat.add_def',hd,kd];simp
  ·obtain ⟨C,g,D,rfl,f,E,F⟩:=r.shape;have k:0<g:=by
    rcases zP g with h | h
    ·have:=f.1 h;omega
    ·exact h
   refine (pN s z none C t u A B 0 0 g D _ _ _ _ a _ _ c w K j i (fun I=>.inr ⟨cI _ _ _ _ I,fun Y=>fF _ _ _ _ _ _ _ Y k E F⟩)).mono ?_;intro e w' h;exact gw.q (za p q) h
 ·obtain ⟨G,H,U,rfl,f,E,F⟩:=m.shape;have l:0<H:=by
   rcases zP H with h | h
   ·have:=f.1 h;omega
   ·exact h
  obtain ⟨V,W,X,C,g,D,e⟩:=j.shape;simp only [Value.agg.injEq,Array.mk.injEq,List.cons.injEq,and_true,true_and] at e;obtain ⟨_,rfl⟩:=e;refine (pN s z G C t u A B H U g D _ _ _ _ a _ _ c w K j i (fun I=>.inl (fF _ _ _ _ _ _ _ I l E F))).mono ?_;intro e w' h;exact gw.q (za p q) h
theorem DA (q:Rat):nO (rB q) (rN q)=rB (-q)/\rN (-q)=rN q/\(-q).den=q.den:=by
 refine ⟨?_,?_,rfl⟩
 ·unfold nO rB rN;rw [Rat.neg_num];by_cases h:q.num<0
  ·have a:¬ -q.num<0:=O
   simp [h,a];omega
  ·by_cases c:q.num=0
   ·simp [c]
   ·have a:-q.num<0:=O
    simp [h,a,c];omega
 ·unfold rN;rw [Rat.neg_num,Int.natAbs_neg]
theorem qOpp_at (x:Value) (q:Rat) (L:Nat) (w:World) (c:FQ w x q L) :
  Calls Tryz.prog 106 #[x] w fun e w'=>FQE w (-q) L e w':=by
 refine (uS x _ _ _ L w c).mono ?_;rintro e w' ⟨v,rfl,a,d⟩;refine ⟨v,rfl,?_,d⟩;obtain ⟨f,g,h⟩:=DA q;rw [f] at a;unfold FQ;rw [g,h];exact a
theorem bd (x:Value) (q:Rat) (L:Nat) (w:World) (a:FQ w x q L) :
  Calls Tryz.prog 65 #[x] w fun e w'=>e=.returned (.bool (decide (q=0)))/\w.grownBy w' none:=by
 refine (mN x _ _ _ L w a).mono ?_;rintro e w' ⟨rfl,c⟩;refine ⟨?_,c⟩;have:decide (rN q=0)=decide (q=0):=by
  rw [decide_eq_decide];exact ⟨DJ,fun h=>by rw [h];rfl⟩
 rw [this]
theorem dr (x y:Value) (p q:Rat) (u h:Nat) (w:World) (H:FQ w x p u) (hy:FQ w y q h) (hl:u+h<=4000000000000) :
  Calls Tryz.prog 62 #[x,y] w fun e w'=>FQE w (p-q) (u+h+2) e w':=by
 have P:=ab H;have Q:=ab hy;obtain ⟨k,l,m,c,o,r,rfl⟩:=H.shape;obtain ⟨z,A,B,C,D,E,rfl⟩:=hy.shape;obtain ⟨s,d⟩:=eX (rB p);obtain ⟨F,f⟩:=eX (rB q);rw [<- d,<- f];rw [<- d] at P;rw [<- f] at Q;clear H hy d f;obtain ⟨W,t⟩:=eX (((w.alloc (Obj.cells #[.bool s,.slice k l m,.slice c o r] 81)).alloc (Obj.cells #[.bool F,.slice z A B,.slice C D E] 81)).alloc (Obj.cells #[.bool false,.slice none 0 0,.slice none 0 0] 81));have I:Hid (w.grownBy W none):=by rw [t];exact ag (ag (ag (ae _ _) _) _) _
 have NW:Hid (∀ wx,W.grownBy wx none->bP wx (w.heap.size+1+1)):=by
  intro wx hg;rw [t] at hg;have:=bC hg;simpa using this
 have a:Hid (∀ wx,W.grownBy wx none->(wx.cell? ⟨w.heap.size,0,none⟩=some (.bool s)/\wx.cell? ⟨w.heap.size,1,none⟩=some (.slice k l m)/\wx.cell? ⟨w.heap.size,2,none⟩=some (.slice c o r))/\(wx.cell? ⟨w.heap.size+1,0,none⟩=some (.bool F)/\wx.cell? ⟨w.heap.size+1,1,none⟩=some (.slice z A B)/\wx.cell? ⟨w.heap.size+1,2,none⟩=some (.slice C D E))/\(wx.cell? ⟨w.heap.size+1+1,0,none⟩=some (.bool false)/\wx.cell? ⟨w.heap.size+1+1,1,none⟩=some (.slice none 0 0)/\wx.cell? ⟨w.heap.size+1+1,2,none⟩=some (.slice none 0 0))/\∀ i,wx.frozen? ⟨w.heap.size+1+1,i,none⟩=false):=by
  intro wx hg;rw [t] at hg;have S:=aG (aa (ag (ag (ae _ none) _) _) hg);have T:=aG (w:=w.alloc (Obj.cells #[.bool s,.slice k l m,.slice c o r] 81)) (aa (ag (ae _ none) _) hg);have g:=aT hg;have e3:((w.alloc (Obj.cells #[.bool s,.slice k l m,.slice c o r] 81)).alloc (Obj.cells #[.bool F,.slice z A B,.slice C D E] 81)).heap.size=w.heap.size+1+1:=Z
  rw [e3] at g;refine ⟨S,by simpa using T,?_,?_⟩
  ·exact ⟨g.1,g.2.1,g.2.2.1⟩
  ·exact g.2.2.2
 obtain ⟨⟨s0,s1,s2⟩,⟨t0,t1,t2⟩,⟨r0,r1,r2⟩,rf⟩:=a.out W (ae _ _);clear rf;have U:¬ w.heap.size+1+1=w.heap.size:=O
 have V:¬ w.heap.size=w.heap.size+1+1:=O
 have X:¬ w.heap.size+1+1=w.heap.size+1:=O
 go_enter Tryz.func62,Tryz.ntmps62
 go_wp2;rw [<- t];clear t;have GG:W.grownBy W none:=ae _ _;go_region_held3 (fun w'=>w'.cell? ⟨w.heap.size,0,none⟩=some (.bool s)/\w'.cell? ⟨w.heap.size,1,none⟩=some (.slice k l m)/\w'.cell? ⟨w.heap.size,2,none⟩=some (.slice c o r)/\w'.cell? ⟨w.heap.size+1,0,none⟩=some (.bool F)/\w'.cell? ⟨w.heap.size+1,1,none⟩=some (.slice z A B)/\w'.cell? ⟨w.heap.size+1,2,none⟩=some (.slice C D E)) (go_keep)
  (first | (go_at_call 106;refine (qOpp_at _ q h _ (Q.keep0 (aa I zF))).mono ?_;rintro e Y ⟨va,rfl,pa,ga⟩;obtain ⟨ao,al,ac,bo,bl,bc,rfl⟩:=pa.shape;have GG:W.grownBy Y none:=aa zF ga;obtain ⟨⟨a0,S,T⟩,⟨g,a4,a5⟩,⟨a6,a7,a8⟩,G⟩:=a.out Y GG;have he:=G 0;have hf:=G 1;have hj:=G 2;clear G) | (go_at_call 61;refine (mg _ _ p (-q) u h _ (P.keep0 (aa I zF)) (pa.keep0 kw) O).mono ?_;rintro e J ⟨v6,rfl,f1,f2⟩;obtain ⟨fo,fl,fc,K,M,N,rfl⟩:=f1.shape;have GG:W.grownBy J none:=aa zF f2;obtain ⟨⟨g0,g1,g2⟩,⟨g3,g4,g5⟩,⟨g6,g7,g8⟩,gf⟩:=a.out J GG;have hk:=gf 0;have hm:=gf 1;have ho:=gf 2;clear gf))
 all_goals
  have F1:=ab f1;have j:=ab GG;clear f1 f2;go_wp2;refine bodyPost_ret (v:=.agg #[.bool (rB (p + -q)),.slice fo fl fc,.slice K M N]) (by first | (simp [results,Tryz.results62,go_sem,g6,g7,g8];done) | (simp [results,Tryz.results62,go_sem,g6,g7,g8];rfl)) rfl ?_;rw [Rat.sub_eq_add_neg];exact ⟨_,rfl,FV.other F1 (NW J j) bH,ah (ah (ah (aa I j) _ _ (by simp;omega)) _ _ (by simp;omega)) _ _ (by simp;omega)⟩
theorem fBar_at (x:Value) (neg:Bool) (n d L:Nat) (w:World) (h:FV w x neg n d L) :
  Calls Tryz.prog 66 #[x] w fun e w'=>gw w false d 1 (L+1) e w':=by
 have B:=ab h;obtain ⟨q,r,s,c,t,u,rfl⟩:=h.shape;clear h;obtain ⟨W,f⟩:=eX ((w.alloc (Obj.cells #[.bool neg,.slice q r s,.slice c t u] 81)).alloc (Obj.cells #[.bool false,.slice none 0 0,.slice none 0 0] 81));have m:Hid (w.grownBy W none):=by rw [f];exact ag (ag (ae _ _) _) _
 have a:Hid (∀ wx,W.grownBy wx none->(wx.cell? ⟨w.heap.size+1,0,none⟩=some (.bool false)/\wx.cell? ⟨w.heap.size+1,1,none⟩=some (.slice none 0 0)/\wx.cell? ⟨w.heap.size+1,2,none⟩=some (.slice none 0 0)/\∀ i,wx.frozen? ⟨w.heap.size+1,i,none⟩=false)):=by
  intro wx hg;rw [f] at hg;have o:=aT hg;have C:(w.alloc (Obj.cells #[.bool neg,.slice q r s,.slice c t u] 81)).heap.size=w.heap.size+1:=Z
  rw [C] at o;exact o
 have D:Hid (∀ wx,W.grownBy wx none->bP wx (w.heap.size+1)):=by
  intro wx hg;rw [f] at hg;have:=bC hg;simpa using this
 go_enter Tryz.func66,Tryz.ntmps66
 go_wp2_with fail;rw [<- f];refine (fB _ neg n d L W (B.keep0 m)).mono ?_;rintro e j ⟨v,rfl,k,l⟩;obtain ⟨y,z,A,rfl,_,_,_⟩:=k.shape;obtain ⟨J,r1,r2,g⟩:=a.out j l;have E:=g 0;have F:=g 1;have G:=g 2;have H:=ab k;have p:=ab l;clear g k l f;go_wp2;refine bodyPost_ret (v:=.agg #[.bool false,.slice y z A,.slice none 0 0]) (by simp [results,Tryz.results66,go_sem,J,r1,r2]) rfl ?_;refine ⟨_,rfl,?_,ah (ah (ah (aa m p) _ _ Z) _ _ Z) _ _ Z⟩;have I:FV j (.agg #[.bool false,.slice y z A,.slice none 0 0]) false d 1 (L+1):=⟨_,_,rfl,H,.inl ⟨rfl,rfl⟩,Z,Z⟩;exact I.other (D j p) bH
def SizeE (w:World) (L:Nat) (e:Ending) (w':World):Prop:=∃ k:Nat,e=.returned (.int .i64 (k:Nat))/\k<=64*L+64/\w.grownBy w' none
theorem Cx (x:Value) (neg:Bool) (n d L:Nat) (w:World) (o:FV w x neg n d L) (r:L<=10000000000000) :
  Calls Tryz.prog 67 #[x] w fun e w'=>SizeE w L e w':=by
 obtain ⟨f,g,h,a,i,j,rfl⟩:=o.shape;have y:Hid (aQ w (.slice f g h) n L):=by
  obtain ⟨up,k,e,t,_⟩:=o;simp only [Value.agg.injEq,Array.mk.injEq,List.cons.injEq,and_true,true_and] at e;rw [e.1];exact t
 have s:Hid (∃ m,aQ w (.slice a i j) m L):=by
  obtain ⟨up,k,e,t,l,_⟩:=o;simp only [Value.agg.injEq,Array.mk.injEq,List.cons.injEq,and_true,true_and] at e;rw [e.2];rcases l with ⟨l,_⟩ | ⟨l,_⟩
  ·rw [l];exact ⟨0,[],Ws.nil _,rfl,rfl,Z⟩
  ·exact ⟨_,l⟩
 obtain ⟨m,u⟩:=s.out;have A:=ab u;clear o u s;obtain ⟨W,p⟩:=eX (w.alloc (Obj.cells #[.bool neg,.slice f g h,.slice a i j] 81));have q:Hid (w.grownBy W none):=by rw [p];exact ag (ae _ _) _
 have c:Hid (∀ wx,W.grownBy wx none->wx.cell? ⟨w.heap.size,1,none⟩=some (.slice f g h)/\wx.cell? ⟨w.heap.size,2,none⟩=some (.slice a i j)):=by
  intro wx hg;rw [p] at hg;exact (aG hg).2
 obtain ⟨s1,s2⟩:=c.out W (ae _ _);go_enter Tryz.func67,Tryz.ntmps67
 go_wp2;rw [<- p];clear p;go_region_held3 (fun w'=>w'.cell? ⟨w.heap.size,1,none⟩=some (.slice f g h)/\w'.cell? ⟨w.heap.size,2,none⟩=some (.slice a i j)) (go_keep)
  (first | (go_at_call_of 107 (Value.slice f g h);refine (lN _ n L _ (y.keep0 (aa q (by first | exact aa Gb (aP _) | exact aa Gb (aj (ae _ _) 1) | exact Gb | exact aa Ga (aP _) | exact aa Ga (aj (ae _ _) 1) | exact Ga | exact aP _ | exact aj (ae _ _) 1 | exact ae _ _))) r).mono ?_;rintro e F ⟨B,rfl,_,C,rfl⟩) | (go_at_call_of 107 (Value.slice a i j);refine (lN _ m L _ (A.keep0 (aa q (by first | exact aa Gb (aP _) | exact aa Gb (aj (ae _ _) 1) | exact Gb | exact aa Ga (aP _) | exact aa Ga (aj (ae _ _) 1) | exact Ga | exact aP _ | exact aj (ae _ _) 1 | exact ae _ _))) r).mono ?_;rintro e G ⟨D,rfl,_,E,rfl⟩))
 all_goals
  go_wp2;go_ret;exact ⟨B+D,congrArg (fun z=>Ending.returned (Value.int .i64 z)) (by first | omega | (rw [IntWalk.i64_in _ ⟨O,O⟩];omega)),O,aa q (by first | exact aa Gb (aP _) | exact aa Gb (aj (ae _ _) 1) | exact Gb | exact aa Ga (aP _) | exact aa Ga (aj (ae _ _) 1) | exact Ga | exact aP _ | exact aj (ae _ _) 1 | exact ae _ _)⟩
theorem vf (f m:Option Addr) (g h o p:Nat) (c d:Bool) (j r k s:Nat) (w:World) (E:aQ w (.slice f g h) j r) (hy:aQ w (.slice m o p) k s) (hl:r+s<=4000000000000) :
  Calls Tryz.prog 64 #[.agg #[.bool c,.slice f g h,.slice none 0 0],.agg #[.bool d,.slice m o p,.slice none 0 0]] w fun e w'=>gw w (aY (c != d) j k).1 (aY (c != d) j k).2.1 (aY (c != d) j k).2.2 (r+s+2) e w':=by
 have T:=ab E;have U:=ab hy;clear E hy;obtain ⟨W,q⟩:=eX (((w.alloc (Obj.cells #[.bool c,.slice f g h,.slice none 0 0] 81)).alloc (Obj.cells #[.bool d,.slice m o p,.slice none 0 0] 81)).alloc (Obj.cells #[.bool false,.slice none 0 0,.slice none 0 0] 81));have x:Hid (w.grownBy W none):=by rw [q];exact ag (ag (ag (ae _ _) _) _) _
 have V:Hid (∀ wx,W.grownBy wx none->bP wx (w.heap.size+1+1)):=by
  intro wx hg;rw [q] at hg;have:=bC hg;simpa using this
 have a:Hid (∀ wx,W.grownBy wx none->(wx.cell? ⟨w.heap.size,0,none⟩=some (.bool c)/\wx.cell? ⟨w.heap.size,1,none⟩=some (.slice f g h)/\wx.cell? ⟨w.heap.size,2,none⟩=some (.slice none 0 0))/\(wx.cell? ⟨w.heap.size+1,0,none⟩=some (.bool d)/\wx.cell? ⟨w.heap.size+1,1,none⟩=some (.slice m o p)/\wx.cell? ⟨w.heap.size+1,2,none⟩=some (.slice none 0 0))/\(wx.cell? ⟨w.heap.size+1+1,0,none⟩=some (.bool false)/\wx.cell? ⟨w.heap.size+1+1,1,none⟩=some (.slice none 0 0)/\wx.cell? ⟨w.heap.size+1+1,2,none⟩=some (.slice none 0 0))/\∀ i,wx.frozen? ⟨w.heap.size+1+1,i,none⟩=false):=by
  intro wx hg;rw [q] at hg;have F:=aG (aa (ag (ag (ae _ none) _) _) hg);have G:=aG (w:=w.alloc (Obj.cells #[.bool c,.slice f g h,.slice none 0 0] 81)) (aa (ag (ae _ none) _) hg);have l:=aT hg;have X:((w.alloc (Obj.cells #[.bool c,.slice f g h,.slice none 0 0] 81)).alloc (Obj.cells #[.bool d,.slice m o p,.slice none 0 0] 81)).heap.size=w.heap.size+1+1:=Z
  rw [X] at l;refine ⟨F,by simpa using G,?_,?_⟩
  ·exact ⟨l.1,l.2.1,l.2.2.1⟩
  ·exact l.2.2.2
 obtain ⟨⟨s0,s1,s2⟩,⟨t0,t1,t2⟩,⟨r0,r1,r2⟩,rf⟩:=a.out W (ae _ _);clear rf;have H:¬ w.heap.size+1+1=w.heap.size:=O
 have I:¬ w.heap.size=w.heap.size+1+1:=O
 have J:¬ w.heap.size+1+1=w.heap.size+1:=O
 go_enter Tryz.func64,Tryz.ntmps64
 go_wp2_with fail;rw [<- q];clear q;refine (cI _ _ _ _ _).mono ?_;rintro e w1 ⟨rfl,z⟩;have Y:=ab z;obtain ⟨⟨a0,F,G⟩,⟨l,a4,a5⟩,_⟩:=a.out w1 z;clear z;go_wp2_with fail;refine (cI _ _ _ _ _).mono ?_;rintro e w2 ⟨rfl,K⟩;have t:=ab (aa Y K);obtain ⟨⟨c0,c1,c2⟩,⟨c3,c4,c5⟩,_⟩:=a.out w2 t;clear K;go_wp2_with fail;refine (mQ _ _ _ j k (r+s+2) _ ((T.keep0 (aa x t)).mono O) ((U.keep0 (aa x t)).mono O) O).mono ?_;rintro e M ⟨v3,rfl,A,N⟩;obtain ⟨fo,fl,fc,B,C,D,rfl⟩:=A.shape;have P1:=ab A;have y:=ab (aa t N);obtain ⟨⟨k0,k1,k2⟩,⟨k3,k4,k5⟩,⟨P,Q,S⟩,u⟩:=a.out M y;have he:=u 0;have hf:=u 1;have hj:=u 2;clear u A N;go_wp2;refine bodyPost_ret (v:=.agg #[.bool (aY (c != d) j k).1,.slice fo fl fc,.slice B C D]) (by first | (simp [results,Tryz.results64,go_sem,P,Q,S];done) | (simp [results,Tryz.results64,go_sem,P,Q,S];rfl)) rfl ?_;exact ⟨_,rfl,P1.other (V M y) bH,ah (ah (ah (aa x y) _ _ (by simp;omega)) _ _ (by simp;omega)) _ _ (by simp;omega)⟩
theorem pM (k l c x:Option Addr) (m o p q r s y z:Nat) (f d:Bool) (D E P g j A:Nat) (w:World) (hx:FV w (.agg #[.bool f,.slice k m o,.slice c r s]) f D E P) (hy:FV w (.agg #[.bool d,.slice l p q,.slice x y z]) d g j A) (hn:0<g) (hl:P+A<=4000000000000)
  (hwh:∀ wx:World,(Calls Tryz.prog 101 #[.agg #[.bool f,.slice k m o,.slice c r s]] wx fun e w'=>e=.returned (.bool false)/\wx.grownBy w' none)∨((Calls Tryz.prog 101 #[.agg #[.bool f,.slice k m o,.slice c r s]] wx fun e w'=>e=.returned (.bool true)/\wx.grownBy w' none)/\∀ wx:World,Calls Tryz.prog 101 #[.agg #[.bool d,.slice l p q,.slice x y z]] wx fun e w'=>e=.returned (.bool false)/\wx.grownBy w' none)) :
  Calls Tryz.prog 64 #[.agg #[.bool f,.slice k m o,.slice c r s],.agg #[.bool d,.slice l p q,.slice x y z]] w fun e w'=>gw w (aY (f != d) (D*j) (E*g)).1 (aY (f != d) (D*j) (E*g)).2.1 (aY (f != d) (D*j) (E*g)).2.2 (P+A+2) e w':=by
 have HX:=ab hx;have HY:=ab hy;have Q:=hy.down_le.1;have C:=hy.cop;have NY:Hid (aQ w (.slice l p q) g A):=by
  obtain ⟨up,hu,e,h1,_⟩:=hy;simp only [Value.agg.injEq,Array.mk.injEq,List.cons.injEq,and_true,true_and] at e;rw [e.1];exact h1
 clear hx hy;have S:Hid (aY d j g=(d,j,g)):=by show _=_;exact nA d j g Q hn (by rw [Nat.gcd_comm];exact C)
 have G:Hid (j=0∨Nat.gcd j g=1):=.inr (by rw [Nat.gcd_comm];exact C);have H:decide (g=0)=false:=decide_eq_false O;have T:=ab H;clear C H;obtain ⟨W,N⟩:=eX (((w.alloc (Obj.cells #[.bool f,.slice k m o,.slice c r s] 81)).alloc (Obj.cells #[.bool d,.slice l p q,.slice x y z] 81)).alloc (Obj.cells #[.bool false,.slice none 0 0,.slice none 0 0] 81));have I:Hid (w.grownBy W none):=by rw [N];exact ag (ag (ag (ae _ _) _) _) _
 have NW:Hid (∀ wx,W.grownBy wx none->bP wx (w.heap.size+1+1)):=by
  intro wx hg;rw [N] at hg;have:=bC hg;simpa using this
 have a:Hid (∀ wx,W.grownBy wx none->(wx.cell? ⟨w.heap.size,0,none⟩=some (.bool f)/\wx.cell? ⟨w.heap.size,1,none⟩=some (.slice k m o)/\wx.cell? ⟨w.heap.size,2,none⟩=some (.slice c r s))/\(wx.cell? ⟨w.heap.size+1,0,none⟩=some (.bool d)/\wx.cell? ⟨w.heap.size+1,1,none⟩=some (.slice l p q)/\wx.cell? ⟨w.heap.size+1,2,none⟩=some (.slice x y z))/\(wx.cell? ⟨w.heap.size+1+1,0,none⟩=some (.bool false)/\wx.cell? ⟨w.heap.size+1+1,1,none⟩=some (.slice none 0 0)/\wx.cell? ⟨w.heap.size+1+1,2,none⟩=some (.slice none 0 0))/\∀ i,wx.frozen? ⟨w.heap.size+1+1,i,none⟩=false):=by
  intro wx hg;rw [N] at hg;have a1:=aG (aa (ag (ag (ae _ none) _) _) hg);have a2:=aG (w:=w.alloc (Obj.cells #[.bool f,.slice k m o,.slice c r s] 81)) (aa (ag (ae _ none) _) hg);have F:=aT hg;have e3:((w.alloc (Obj.cells #[.bool f,.slice k m o,.slice c r s] 81)).alloc (Obj.cells #[.bool d,.slice l p q,.slice x y z] 81)).heap.size=w.heap.size+1+1:=Z
  rw [e3] at F;refine ⟨a1,by simpa using a2,?_,?_⟩
  ·exact ⟨F.1,F.2.1,F.2.2.1⟩
  ·exact F.2.2.2
 obtain ⟨⟨s0,s1,s2⟩,⟨t0,t1,t2⟩,⟨r0,r1,r2⟩,rf⟩:=a.out W (ae _ _);clear rf;have hf:¬ w.heap.size+1+1=w.heap.size:=O
 have hj:¬ w.heap.size=w.heap.size+1+1:=O
 have hk:¬ w.heap.size+1+1=w.heap.size+1:=O
 have U:=ab hwh;clear hwh;go_enter Tryz.func64,Tryz.ntmps64
 go_upto_region 1 with fail;rw [<- N];clear N;go_cut [10] (fun s10 wx=>Hid (s10=.bool false/\W.grownBy wx none))
 case first =>
  go_wp2_with fail;rcases U.out W with h | ⟨h,h2⟩
  ·refine h.mono ?_;rintro e w1 ⟨rfl,B⟩;go_wp2_with fail;go_meet
   exact ⟨rfl,B⟩
  ·refine h.mono ?_;rintro e w1 ⟨rfl,B⟩;obtain ⟨⟨a0,a1,a2⟩,⟨F,a4,a5⟩,_⟩:=a.out w1 B;go_wp2_with fail;refine (h2 _).mono ?_;rintro e w2 ⟨rfl,g2⟩;go_wp2_with fail;go_meet
   exact ⟨rfl,aa B g2⟩
 case rest =>
  obtain ⟨rfl,GG⟩:=hcut.out;clear hcut s0 s1 s2 t0 t1 t2 r0 r1 r2;obtain ⟨⟨s0,s1,s2⟩,⟨s3,s4,s5⟩,_⟩:=a.out wc GG;go_wp2_with fail;refine (mN _ d g j A _ (HY.keep0 (aa I GG))).mono ?_;rintro e w1 ⟨rfl,B⟩;rw [T];have J:W.grownBy w1 none:=aa GG B;clear GG s0 s1 s2 s3 s4 s5 B;have GG:=J;clear J;obtain ⟨⟨s0,s1,s2⟩,⟨s3,s4,s5⟩,_⟩:=a.out w1 GG;go_wp2;go_region_held3 (fun w'=>w'.cell? ⟨w.heap.size,0,none⟩=some (.bool f)/\w'.cell? ⟨w.heap.size,1,none⟩=some (.slice k m o)/\w'.cell? ⟨w.heap.size,2,none⟩=some (.slice c r s)/\w'.cell? ⟨w.heap.size+1,0,none⟩=some (.bool d)/\w'.cell? ⟨w.heap.size+1,1,none⟩=some (.slice l p q)/\w'.cell? ⟨w.heap.size+1,2,none⟩=some (.slice x y z)) (go_keep)
   (first | (go_at_call_of 77 (Value.agg #[.bool d,.slice l p q,.slice x y z]);refine (fB _ _ _ _ A _ (HY.keep0 (aa I zF))).mono ?_;rintro e wa ⟨va,rfl,pa,ga⟩;obtain ⟨ao,al,ac,rfl,_,_,_⟩:=pa.shape;have KP:=aa kw ga;have GG:W.grownBy wa none:=aa zF ga;(try have K:=K.keep0 KP);clear KP;obtain ⟨⟨hA,hB,hC⟩,⟨hD,hE,hF⟩,⟨hG,hH,hI⟩,t⟩:=a.out wa GG;have hm:=t 0;have ho:=t 1;have hp:=t 2;clear t) | (go_at_call 105;refine (ku _ _ _ j g (A+1) _ (pa.keep0 kw) ((NY.keep0 (aa I zF)).mono O) hn G).mono ?_;rintro e wx ⟨vx,rfl,K,gx⟩;rw [S] at K;obtain ⟨xo,xl,xc,yo,yl,yc,rfl⟩:=K.shape;have GG:W.grownBy wx none:=aa zF gx;obtain ⟨⟨hJ,hK,hL⟩,⟨hM,hN,hQ⟩,⟨hR,hS,hT⟩,u⟩:=a.out wx GG;have hq:=u 0;have hr:=u 1;have hs:=u 2;clear u) | (go_at_call 63;refine (qX _ _ f d D E P j g (A+1) _ (HX.keep0 (aa I zF)) (K.keep0 kw) O).mono ?_;rintro e V ⟨v6,rfl,f1,f2⟩;obtain ⟨fo,fl,fc,X,Y,he,rfl⟩:=f1.shape;have GG:W.grownBy V none:=aa zF f2;obtain ⟨⟨g0,B,g2⟩,⟨g3,g4,g5⟩,⟨g6,g7,g8⟩,gf⟩:=a.out V GG;have hv:=gf 0;have hw:=gf 1;have hz:=gf 2;clear gf))
  all_goals
   have F1:=ab f1;have M:=ab GG;clear f1 f2;go_wp2;refine bodyPost_ret (v:=.agg #[.bool (aY (f != d) (D*j) (E*g)).1,.slice fo fl fc,.slice X Y he]) (by first | (simp [results,Tryz.results64,go_sem,g6,g7,g8];done) | (simp [results,Tryz.results64,go_sem,g6,g7,g8];rfl)) rfl ?_;exact ⟨_,rfl,F1.other (NW V M) bH,ah (ah (ah (aa I M) _ _ (by simp;omega)) _ _ (by simp;omega)) _ _ (by simp;omega)⟩
theorem pK (x y:Value) (p q:Rat) (c d:Nat) (w:World) (J:FQ w x p c) (hy:FQ w y q d) (Q:q≠0) (g:c+d<=4000000000000) :
  Calls Tryz.prog 64 #[x,y] w fun e w'=>FQE w (p / q) (c+d+2) e w':=by
 have K:=J;have i:=hy;have hn:0<rN q:=by have:=q_ne Q;omega
 have a:mkRat (fP (rB p != rB q) (rN p*q.den)) (p.den*rN q)=p / q:=by rw [Nat.mul_comm p.den];exact DI p q
 obtain ⟨up,M,rfl,N,l,Y,h4⟩:=J;obtain ⟨S,m,rfl,P,o,k3,k4⟩:=hy;obtain ⟨r,s,t,rfl,_⟩:=N.shape;obtain ⟨u,z,A,rfl,_⟩:=P.shape;rcases l with ⟨rfl,hd⟩ | ⟨l,hd⟩
 ·rcases o with ⟨rfl,kd⟩ | ⟨o,kd⟩
  ·refine (vf r u s t z A _ _ _ c _ d w N P g).mono ?_;intro e w' h;rw [hd,kd,Nat.mul_one,Nat.one_mul] at a;exact gw.q a h
  ·obtain ⟨B,f,C,rfl,D,E,F⟩:=o.shape;have j:0<f:=by
    rcases zP f with h | h
    ·have:=D.1 h;omega
    ·exact h
   refine (pM r u none B s t z A 0 0 f C _ _ _ _ c _ _ d w K i hn g (fun I=>.inr ⟨cI _ _ _ _ I,fun X=>fF _ _ _ _ _ _ _ X j E F⟩)).mono ?_;intro e w' h;exact gw.q a h
 ·obtain ⟨G,H,T,rfl,D,E,F⟩:=l.shape;have k:0<H:=by
   rcases zP H with h | h
   ·have:=D.1 h;omega
   ·exact h
  obtain ⟨U,V,W,B,f,C,e⟩:=i.shape;simp only [Value.agg.injEq,Array.mk.injEq,List.cons.injEq,and_true,true_and] at e;obtain ⟨_,rfl⟩:=e;refine (pM r u G B s t z A H T f C _ _ _ _ c _ _ d w K i hn g (fun I=>.inl (fF _ _ _ _ _ _ _ I k E F))).mono ?_;intro e w' h;exact gw.q a h
theorem qBar_at (x:Value) (q:Rat) (L:Nat) (w:World) (a:FQ w x q L) :
  Calls Tryz.prog 66 #[x] w fun e w'=>FQE w ((q.den:Nat):Rat) (L+1) e w':=by
 refine (fBar_at x _ _ _ L w a).mono ?_;rintro e w' ⟨v,rfl,g,h⟩;refine ⟨v,rfl,?_,h⟩;have c:rB ((q.den:Nat):Rat)=false:=by unfold rB;rw [Rat.num_natCast];exact decide_eq_false O
 have d:rN ((q.den:Nat):Rat)=q.den:=by unfold rN;rw [Rat.num_natCast];exact Int.natAbs_natCast _
 have f:((q.den:Nat):Rat).den=1:=Rat.den_natCast _;unfold FQ;rw [c,d,f];exact g
def aL (w w':World):Prop:=w.heap.size<=w'.heap.size/\∀ a (x:Nat),w.cell? a=some (.int .u32 (x:Nat))->w'.cell? a=some (.int .u32 (x:Nat))
theorem aL.refl (w:World):aL w w:=⟨zL,fun _ _ h=>h⟩
theorem aL.trans {w1 c:World} (h:aL w w1) (k:aL w1 c):aL w c:=⟨Nat.le_trans h.1 k.1,fun a x e=>k.2 a x (h.2 a x e)⟩
theorem bZ {a:Addr} (h:w.cell? a=some v):a.block<w.heap.size:=by
 rcases Nat.lt_or_ge a.block w.heap.size with c | c
 ·exact c
 ·simp [World.cell?,Array.getElem?_eq_none c] at h
theorem aL.of_gr (h:w.grownBy w' none):aL w w' :=
 ⟨h.size,fun a x e=>by rw [World.cell?_of_block (h.block a.block (bZ e) Z)];exact e⟩
theorem aQ.kept (h:aQ w v n L) (k:aL w w'):aQ w' v n L:=by
 obtain ⟨xs,a,c,d,e⟩:=h;refine ⟨xs,⟨a.sm,?_⟩,c,d,e⟩;rcases a.sh with h | ⟨b,off,cap,rfl,hb,f,g,hc⟩
 ·exact .inl h
 ·exact .inr ⟨b,off,cap,rfl,Nat.lt_of_lt_of_le hb k.1,f,g,fun i hi=>k.2 _ _ (hc i hi)⟩
theorem FV.kept {neg:Bool} {d:Nat} (h:FV w v neg n d L) (k:aL w w'):FV w' v neg n d L:=by
 obtain ⟨up,a,e,f,c,g,i⟩:=h;refine ⟨up,a,e,f.kept k,?_,g,i⟩;rcases c with c | ⟨c,j⟩
 ·exact .inl c
 ·exact .inr ⟨c.kept k,j⟩
theorem FQ.kept {q:Rat} (h:FQ w v q L) (k:aL w w'):FQ w' v q L:=FV.kept h k
theorem aL.set {i:Nat} {a:Array Value} {e:TypeId} (hb:w.heap[b]? = some (.cells a e (0,0))) (hi:∀ x:Nat,a[i]?≠some (.int .u32 (x:Nat))) (v:Value):aL w (w.setCell ⟨b,i,none⟩ v):=by
 refine ⟨Z,?_⟩;rintro ⟨f,m,j⟩ x h;by_cases c:f=b
 ·subst c;have k:=heap_setCell_same w f i a e v hb;by_cases d:m=i
  ·subst d;cases j with
   | none =>
    simp only [World.cell?,hb] at h;exact absurd h (hi x)
   | some g=>simp [World.cell?,hb] at h
  ·cases j with
   | none =>
    simp only [World.cell?,hb] at h;simp only [World.cell?,k];rw [Array.getElem?_setIfInBounds_ne (fun e=>d e.symm)];exact h
   | some g=>simp [World.cell?,hb] at h
 ·have l:=heap_setCell_other w ⟨b,i,none⟩ f v c;rw [World.cell?_of_block l];exact h
def bg (L:Nat) (q:Rat):Prop:=rN q<4294967296^L/\q.den<4294967296^L
theorem FQ.tight {q:Rat} {L':Nat} (h:FQ w v q L) (k:bg L' q):FQ w v q L':=by
 obtain ⟨up,a,e,d,c,f,g⟩:=h;refine ⟨up,a,e,d.tight k.1,?_,f,g⟩;rcases c with c | ⟨c,i⟩
 ·exact .inl c
 ·exact .inr ⟨c.tight k.2,i⟩
def aH (w:World) (b n:Nat) (R:Nat->Rat) (L:Nat):Prop :=
 ∃ cur e,w.heap[b]? = some (.cells cur e (0,0))/\∀ i,i<n->∃ u d,cur[i*3]? = some (.bool (rB (R i)))/\cur[i*3+1]? = some u/\cur[i*3+2]? = some d/\FQ w (.agg #[.bool (rB (R i)),u,d]) (R i) L
theorem aH.lt (h:aH w b n R L):b<w.heap.size:=by
 obtain ⟨a,e,hb,_⟩:=h;exact (zZ hb).1
theorem aH.keep {r:Option Nat} (h:aH w b n R L) (g:w.grownBy w' r) (k:aL w w') (c:some b≠r):aH w' b n R L:=by
 have f:=h.lt;obtain ⟨a,e,hb,hc⟩:=h;refine ⟨a,e,by rw [g.block b f c];exact hb,fun i hi=>?_⟩;obtain ⟨u,d,c0,c1,j,l⟩:=hc i hi;exact ⟨u,d,c0,c1,j,l.kept k⟩
theorem aH.keep0 (h:aH w b n R L) (g:w.grownBy w' none):aH w' b n R L:=h.keep g (aL.of_gr g) Z
theorem aH.congr {R':Nat->Rat} (h:aH w b n R L) (e:∀ i,i<n->R i=R' i):aH w b n R' L:=by
 obtain ⟨a,c,hb,hc⟩:=h;refine ⟨a,c,hb,fun i hi=>?_⟩;rw [<- e i hi];exact hc i hi
theorem aH.at (h:aH w b n R L) (i:Nat) (hi:i<n) :
  ∃ uo ul uc do_ dl dc,w.cell? ⟨b,i*3,none⟩=some (.bool (rB (R i)))/\w.cell? ⟨b,i*3+1,none⟩=some (.slice uo ul uc)/\w.cell? ⟨b,i*3+2,none⟩=some (.slice do_ dl dc)
   /\ FQ w (.agg #[.bool (rB (R i)),.slice uo ul uc,.slice do_ dl dc]) (R i) L/\∀ k,w.frozen? ⟨b,k,none⟩=false:=by
 obtain ⟨f,e,hb,hc⟩:=h;obtain ⟨u,d,c0,c1,g,a⟩:=hc i hi;obtain ⟨uo,ul,uc,do_,dl,dc,c⟩:=a.shape;simp only [Value.agg.injEq,Array.mk.injEq,List.cons.injEq,and_true,true_and] at c;obtain ⟨rfl,rfl⟩:=c;exact ⟨uo,ul,uc,do_,dl,dc,by simp only [World.cell?,hb];exact c0,by simp only [World.cell?,hb];exact c1,by simp only [World.cell?,hb];exact g,a,fun k=>by simp [World.frozen?,hb]⟩
def aJ (R:Nat->Rat) (i:Nat) (q:Rat):Nat->Rat:=fun j=>if j=i then q else R j
theorem set3 {k:Nat} {a:Array Value} {e:TypeId} (hb:w.heap[b]? = some (.cells a e (0,0))) {c d f:Value} (c0:a[k]? = some c) (c1:a[k+1]? = some d) (g:a[k+2]? = some f)
  (n0:∀ x:Nat,c≠.int .u32 (x:Nat)) (n1:∀ x:Nat,d≠.int .u32 (x:Nat)) (n2:∀ x:Nat,f≠.int .u32 (x:Nat)) (y0 y1 y2:Value) :
  ∃ cur',(((w.setCell ⟨b,k,none⟩ y0).setCell ⟨b,k+1,none⟩ y1).setCell ⟨b,k+2,none⟩ y2).heap[b]? = some (.cells cur' e (0,0))
   /\ cur'[k]? = some y0/\cur'[k+1]? = some y1/\cur'[k+2]? = some y2/\(∀ j,j≠k->j≠k+1->j≠k+2->cur'[j]? = a[j]?)
   /\ aL w (((w.setCell ⟨b,k,none⟩ y0).setCell ⟨b,k+1,none⟩ y1).setCell ⟨b,k+2,none⟩ y2):=by
 have m:=(zZ c0).1;have o:=(zZ c1).1;have p:=(zZ g).1;have h:=heap_setCell_same w b k a e y0 hb;have l:=heap_setCell_same (w.setCell ⟨b,k,none⟩ y0) b (k+1) (a.setIfInBounds k y0) e y1 h;have q:=heap_setCell_same ((w.setCell ⟨b,k,none⟩ y0).setCell ⟨b,k+1,none⟩ y1) b (k+2) ((a.setIfInBounds k y0).setIfInBounds (k+1) y1) e y2 l;have r:aL w (w.setCell ⟨b,k,none⟩ y0):=aL.set hb (fun x e=>by rw [c0] at e;exact n0 x (zJ e)) y0;have s:=aL.set h (i:=k+1) (fun x e=>by rw [Array.getElem?_setIfInBounds_ne O,c1] at e;exact n1 x (zJ e)) y1;have t:=aL.set l (i:=k+2) (fun x e=>by rw [Array.getElem?_setIfInBounds_ne O,Array.getElem?_setIfInBounds_ne O,g] at e;exact n2 x (zJ e)) y2;refine ⟨((a.setIfInBounds k y0).setIfInBounds (k+1) y1).setIfInBounds (k+2) y2,q,?_,?_,?_,?_,(r.trans s).trans t⟩
 ·rw [Array.getElem?_setIfInBounds_ne O,Array.getElem?_setIfInBounds_ne O,Array.getElem?_setIfInBounds_self_of_lt m]
 ·rw [Array.getElem?_setIfInBounds_ne O,Array.getElem?_setIfInBounds_self_of_lt (by simpa using o)]
 ·rw [Array.getElem?_setIfInBounds_self_of_lt (by simpa using p)]
 ·intro j u y z;rw [Array.getElem?_setIfInBounds_ne O,Array.getElem?_setIfInBounds_ne O,Array.getElem?_setIfInBounds_ne O]
theorem aH.set (h:aH w b n R L) (i:Nat) (hi:i<n) {q:Rat} {c a:Option Addr} {f g l m:Nat} (D:FQ w (.agg #[.bool (rB q),.slice c f g,.slice a l m]) q L) :
  aH (((w.setCell ⟨b,i*3,none⟩ (.bool (rB q))).setCell ⟨b,i*3+1,none⟩ (.slice c f g)).setCell ⟨b,i*3+2,none⟩ (.slice a l m)) b n (aJ R i q) L
  /\ w.grownBy (((w.setCell ⟨b,i*3,none⟩ (.bool (rB q))).setCell ⟨b,i*3+1,none⟩ (.slice c f g)).setCell ⟨b,i*3+2,none⟩ (.slice a l m)) (some b)
  /\ aL w (((w.setCell ⟨b,i*3,none⟩ (.bool (rB q))).setCell ⟨b,i*3+1,none⟩ (.slice c f g)).setCell ⟨b,i*3+2,none⟩ (.slice a l m)):=by
 have hg:w.grownBy (((w.setCell ⟨b,i*3,none⟩ (.bool (rB q))).setCell ⟨b,i*3+1,none⟩ (.slice c f g)).setCell ⟨b,i*3+2,none⟩ (.slice a l m)) (some b) :=
  ⟨rfl,rfl,rfl,Z,fun k _ X=>by
   have s:k≠b:=fun e=>X (by rw [e])
   rw [heap_setCell_other _ _ k _ s,heap_setCell_other _ _ k _ s,heap_setCell_other _ _ k _ s]⟩
 obtain ⟨E,e,hb,hc⟩:=h;obtain ⟨u0,d0,c0,c1,F,G⟩:=hc i hi;obtain ⟨H,I,J,K,M,N,B⟩:=G.shape;simp only [Value.agg.injEq,Array.mk.injEq,List.cons.injEq,and_true,true_and] at B;obtain ⟨y,z⟩:=B;obtain ⟨p,C,P,Q,S,A,r⟩:=set3 hb c0 c1 F (fun x e=>by simp at e) (fun x e=>by rw [y] at e;simp at e) (fun x e=>by rw [z] at e;simp at e) (.bool (rB q)) (.slice c f g) (.slice a l m);generalize (((w.setCell ⟨b,i*3,none⟩ (.bool (rB q))).setCell ⟨b,i*3+1,none⟩ (.slice c f g)).setCell ⟨b,i*3+2,none⟩ (.slice a l m))=w3 at hg C r;refine ⟨⟨p,e,C,fun j Y=>?_⟩,hg,r⟩;by_cases o:j=i
 ·have t:aJ R i q j=q:=by unfold aJ;rw [if_pos o]
  rw [t,o];exact ⟨.slice c f g,.slice a l m,P,Q,S,D.kept r⟩
 ·obtain ⟨u,d,T,U,V,W⟩:=hc j Y;have t:aJ R i q j=R j:=by unfold aJ;rw [if_neg o]
  rw [t];exact ⟨u,d,by rw [A _ O O O];exact T,by rw [A _ O O O];exact U,by rw [A _ O O O];exact V,W.kept r⟩
abbrev jP (b:Bool) (u d:Value):Value:=.agg #[.bool b,u,d,.func (.func 60) #[] #[],.func (.func 61) #[] #[],.func (.func 62) #[] #[],.func (.func 63) #[] #[],.func (.func 64) #[] #[],.func (.func 65) #[] #[],.func (.func 66) #[] #[],.func (.func 67) #[] #[]]
open Go.RowKit Go.Sort
def fT (w:World):Prop:=Lib.TabIs Tryz.prog w "internal/strconv.uint64pow10" .u64 Lib.pow10Tab
theorem fT.keep0 (h:fT w) (hg:w.grownBy w' none):fT w':=by
 unfold fT Lib.TabIs World.var? at *;cases hn:Tryz.prog.globalNamed "internal/strconv.uint64pow10" with
 | none=>simp [hn] at h
 | some g =>
  simp only [hn,Option.bind_some] at h ⊢;have hlt:g<w.heap.size:=by
   rcases Nat.lt_or_ge g w.heap.size with a | a
   ·exact a
   ·rw [Array.getElem?_eq_none a] at h;simp at h
  rw [hg.block g hlt Z];exact h
theorem gr_grow (k:Nat) (os:Array Obj):w.grownBy (grow (w.drewN k) os) none:=by
 refine ⟨rfl,rfl,rfl,?_,?_⟩
 ·simp [grow]
 ·intro b hb _;show (w.heap++os)[b]? = w.heap[b]?
  rw [Array.getElem?_append_left hb]
theorem ur (w:World) (T:TypeId) (nd:Nat) (d:nd<=24):Holds (fun (b:UInt8)=>Value.int .u8 (b.toNat:Int)) (w.alloc (.cells Lib.zeros24 T)) w.heap.size 0 (Array.replicate nd (0:UInt8)):=fun j a=>by
 have c:j<nd:=by simpa using a
 refine ⟨?_,World.frozen?_alloc_new _ _ _ _⟩;rw [World.cell?_alloc_new,Lib.zeros24_at _ O,getElem!_pos _ j a];simp
theorem Cy (w:World) (o:Obj) (c:Array UInt8) (k:Nat):∃ os,(putRow (fun (b:UInt8)=>Value.int .u8 (b.toNat:Int)) (w.alloc o) w.heap.size 0 c).drewN k=grow (w.drewN k) os:=by
 rw [alloc_eq_grow];obtain ⟨a,_,e⟩:=putRow_grow_new (fun (b:UInt8)=>Value.int .u8 (b.toNat:Int)) w #[o] w.heap.size 0 c zL;exact ⟨a,by rw [e];rfl⟩
theorem pn (u:Nat) (w:World) (a:u<18446744073709551616) (f:fT w) :
  Calls Tryz.prog 157 #[.int .u64 (u:Nat),.int .i64 10] w fun e w'=>e=.returned (.string ⟨(Lib.decDigits u).toArray⟩)/\w.grownBy w' none:=by
 by_cases s:u<100
 ·go_enter Tryz.func157,Tryz.ntmps157
  go_wp2_with fail;refine (Tryz.internal_strconv_small u s _).mono ?_;rintro e w' ⟨rfl,rfl⟩;go_wp2;go_ret;exact ⟨rfl,ae _ _⟩
 ·have g:1<=u:=O
  have m:Lib.nDigits u<=20:=by have:=Lib.numDigits_eq u g a;split at this<;>omega
  have i:Tryz.prog.arrayLen 224=24:=zK
  have t:∀ W,(Instr.sliceAt 224 (.pointer (some ⟨w.heap.size,0,none⟩)) none (some (.int .i64 (Lib.nDigits u:Int))) none).run Tryz.prog W=.ok (.slice (some ⟨w.heap.size,0,none⟩) (Lib.nDigits u) 24) W:=fun W=>by
   rw [run_sliceAt_array_h W 224 ⟨w.heap.size,0,none⟩ (by simp [Program.arrayLen,Program.elem,Tryz.underlying224]) .i64 (Lib.nDigits u:Int) O (by rw [i];omega)];go_simp
  have d:=ur w 224 (Lib.nDigits u) O;have c:=Tryz.internal_strconv_formatBase10 w.heap.size 0 24 u (Array.replicate (Lib.nDigits u) 0) (w.alloc (.cells Lib.zeros24 224)) d (by rw [Array.size_replicate];exact Lib.lt_pow_nDigits u) a (by rw [Array.size_replicate];omega);rw [Array.size_replicate] at c;have o:=Lib.hid d;have p:=Lib.hid c;clear d i c;go_enter Tryz.func157,Tryz.ntmps157
  go_wp2_with fail;refine (Tryz.internal_strconv_numDigits u g a _ (Lib.tabIs_alloc f _)).mono ?_;rintro e w' ⟨rfl,rfl⟩;go_wp2_with fail;refine p.mono ?_;rintro e w' ⟨rfl,k,z,l,rfl,q⟩;have x:(convert 138 9 (.slice (some ⟨w.heap.size,0,none⟩) (Lib.nDigits u) 24)).run Tryz.prog ((putRow (fun (b:UInt8)=>Value.int .u8 (b.toNat:Int)) (w.alloc (.cells Lib.zeros24 224)) w.heap.size 0 l).drewN k)=.ok (.string ⟨(Lib.decDigits u).toArray⟩) ((putRow (fun (b:UInt8)=>Value.int .u8 (b.toNat:Int)) (w.alloc (.cells Lib.zeros24 224)) w.heap.size 0 l).drewN k):=by
   have h:=run_convert_bytes_back (P:=Tryz.prog) ((putRow (fun (b:UInt8)=>Value.int .u8 (b.toNat:Int)) (w.alloc (.cells Lib.zeros24 224)) w.heap.size 0 l).drewN k) 138 9 5 ⟨w.heap.size,0,none⟩ 24 (Lib.decDigits u) Tryz.underlying138 Tryz.underlying5 Tryz.underlying9 (fun j r=>by
    rw [Lib.row_is_numeral q j r,Lib.add_plain,World.cell?_drewN];exact cell?_putRow (fun (b:UInt8)=>Value.int .u8 (b.toNat:Int)) _ w.heap.size 0 _ l o (by rw [q.size,Array.size_replicate]) j (by rw [q.size];rw [Lib.decDigits_length] at r;exact r))
   rw [Lib.decDigits_length] at h;exact h
  go_wp2;go_ret;obtain ⟨os,y⟩:=Cy w (.cells Lib.zeros24 224) l k;rw [y];exact ⟨rfl,gr_grow _ _⟩
theorem qz (u:Nat) (w:World) (c:u<18446744073709551616) (a:fT w) :
  Calls Tryz.prog 120 #[.int .u64 (u:Nat),.int .i64 10] w fun e w'=>e=.returned (.string ⟨(Lib.decDigits u).toArray⟩)/\w.grownBy w' none:=by
 have H:=ab a;clear a;go_enter Tryz.func120,Tryz.ntmps120
 go_wp2_with fail;refine (pn u _ c H).mono ?_;rintro e w' ⟨rfl,h⟩;have d:=ab h;clear h;go_wp2;go_ret;exact ⟨rfl,d⟩
end Go.Proofs.YtkbmbmdemajoaaaGreatDoor
