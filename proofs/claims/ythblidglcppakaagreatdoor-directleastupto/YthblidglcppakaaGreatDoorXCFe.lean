/- Contracts that the proof leans on. -/
import Derived.Test.YthblidglcppakaaGreatDoorXCFd
import Derived.Test.YthblidglcppakaaGreatDoorXMFf
import Derived.Deep.DeepCutAuto
namespace Go.Proofs.YthblidglcppakaaGreatDoor
open Go.RowKit
set_option linter.unusedVariables false
set_option linter.unusedSimpArgs false
set_option maxHeartbeats 8000000
set_option maxRecDepth 10000
theorem Db (x y:Value) (b1 b2:Bool) (n1 L1 n2 L2:Nat) (w:World) (hx:aU w x n1 L1) (hy:aU w y n2 L2) (hl:L1+L2<=10000000000000) :
  Calls Tryz.prog 134 #[.bool b1,x,.bool b2,y] w fun e w'=>∃ v,e=.returned (.tuple #[.bool (jK b1 n1 b2 n2),v])/\aU w' v (iI b1 n1 b2 n2) (max L1 L2+1)/\w.grownBy w' none:=by
 have HX:=ab hx;have HY:=ab hy;obtain ⟨uo,ul,uc,rfl,_⟩:=hx.shape;obtain ⟨vo,vl,vc,rfl,_⟩:=hy.shape;clear hx hy;by_cases hb:b1=b2
 ·have e1:jK b1 n1 b2 n2=b1:=by unfold jK;rw [if_pos hb]
  have e2:iI b1 n1 b2 n2=n1+n2:=by unfold iI;rw [if_pos hb]
  rw [e1,e2];clear e1 e2;have hbb:(b1==b2)=true:=by simp [hb]
  clear hb;go_enter Tryz.func134,Tryz.ntmps134
  go_wp2_with fail;refine (Cq _ _ n1 n2 L1 L2 _ HX.out HY.out hl).mono ?_;rintro e w2 ⟨v',rfl,k1,k2,_⟩;have K1:=ab k1;have K2:=ab k2;clear k1 k2;go_wp2;exact bodyPost_ret (v:=.tuple #[.bool b1,v']) (by simp [results,Tryz.results134,go_sem]) rfl ⟨v',rfl,K1.out,K2.out⟩
 ·have hbb:(b1==b2)=false:=by simp [hb]
  by_cases hlt:n1<n2
  ·have e1:jK b1 n1 b2 n2=b2:=by unfold jK;rw [if_neg hb,if_pos hlt]
   have e2:iI b1 n1 b2 n2=n2-n1:=by unfold iI;rw [if_neg hb,if_pos hlt]
   rw [e1,e2];clear e1 e2 hb;have HLT:=ab hlt;have ho:iG n1 n2 = -1:=by unfold iG;rw [if_pos hlt]
   clear hlt;go_enter Tryz.func134,Tryz.ntmps134
   go_wp2_with fail;refine (lV _ _ n1 n2 L1 L2 _ HX.out HY.out).mono ?_;rintro e w2 ⟨rfl,q,rfl⟩;rw [ho];clear ho;go_wp2_with fail;refine (ru _ _ n2 n1 L2 L1 _ (HY.out.keep0 (aj q)) (HX.out.keep0 (aj q)) (Nat.le_of_lt HLT.out) (by omega)).mono ?_;rintro e w3 ⟨v',rfl,k1,k2,_⟩;have K1:=ab (k1.mono (show L2<=max L1 L2+1 by omega));have K2:=ab (aa (aj q) k2);clear k1 k2;go_wp2;exact bodyPost_ret (v:=.tuple #[.bool b2,v']) (by simp [results,Tryz.results134,go_sem]) rfl ⟨v',rfl,K1.out,K2.out⟩
  ·have e1:jK b1 n1 b2 n2=(b1 && decide (0<n1-n2)):=by unfold jK;rw [if_neg hb,if_neg hlt]
   have e2:iI b1 n1 b2 n2=n1-n2:=by unfold iI;rw [if_neg hb,if_neg hlt]
   rw [e1,e2];clear e1 e2 hb;have HLT:Hid (n2<=n1):=by show n2<=n1;omega
   have ho:0<=iG n1 n2:=by unfold iG;rw [if_neg hlt];split<;>decide
   obtain ⟨o,eo⟩:∃ o,o=iG n1 n2:=⟨_,rfl⟩;have ho1:o<=1:=by rw [eo];unfold iG;rw [if_neg hlt];split<;>decide
   rw [<- eo] at ho;have EO:=ab eo;clear hlt eo;have hob:(decide (o<0))=false:=decide_eq_false (by omega);go_enter Tryz.func134,Tryz.ntmps134
   go_wp2_with fail;refine (lV _ _ n1 n2 L1 L2 _ HX.out HY.out).mono ?_;rintro e w2 ⟨rfl,q,rfl⟩;rw [<- EO.out];go_wp2_with fail;refine (ru _ _ n1 n2 L1 L2 _ (HX.out.keep0 (aj q)) (HY.out.keep0 (aj q)) HLT.out (by omega)).mono ?_;rintro e w3 ⟨v',rfl,k1,k2,_⟩;obtain ⟨xo,xl,xc,rfl,x1,x2,x3⟩:=k1.shape;unfold maxLen at x3;have K1:=ab (k1.mono (show L1<=max L1 L2+1 by omega));have K2:=ab (aa (aj q) k2);have hx:decide (0<n1-n2)=decide ((0:Int)<(xl:Nat)):=by
    rw [decide_eq_decide];constructor
    ·intro h;have:xl≠0:=fun e=>by have:=x1.1 e;omega
     omega
    ·intro h;have:n1-n2≠0:=fun e=>by have:=x1.2 e;omega
     omega
   have HXD:=ab hx;clear k1 k2 x1 hx;cases b1 with
   | false =>
    go_wp2;exact bodyPost_ret (v:=.tuple #[.bool false,.slice xo xl xc]) (by simp [results,Tryz.results134,go_sem]) rfl ⟨_,rfl,K1.out,K2.out⟩
   | true =>
    go_wp2;refine bodyPost_ret (v:=.tuple #[.bool (decide ((0:Int)<(xl:Nat))),.slice xo xl xc]) (by first | (simp [results,Tryz.results134,go_sem];done) | (simp [results,Tryz.results134,go_sem];rfl)) rfl ⟨_,?_,K1.out,K2.out⟩;rw [Bool.true_and,HXD.out]
def yj (b1:Bool) (n1 d1:Nat) (b2:Bool) (n2 d2:Nat):Bool×Nat×Nat :=
 bn (Co b1 n1 d1 b2 n2 d2) (jC b1 n1 d1 b2 n2 d2 / Nat.gcd (jC b1 n1 d1 b2 n2 d2) (Nat.gcd d1 d2)) (d1 / Nat.gcd d1 d2*(d2 / Nat.gcd (jC b1 n1 d1 b2 n2 d2) (Nat.gcd d1 d2)))
theorem pG (uo vo do_ eo:Option Addr) (ul uc vl vc dl dc el ec:Nat) (b1 b2:Bool) (n1 d1 L1 n2 d2 L2:Nat) (w:World) (hx:FV w (.agg #[.bool b1,.slice uo ul uc,.slice do_ dl dc]) b1 n1 d1 L1) (hy:FV w (.agg #[.bool b2,.slice vo vl vc,.slice eo el ec]) b2 n2 d2 L2) (hl:L1+L2<=4000000000000)
  (hwh:∀ wx:World,(Calls Tryz.prog 133 #[.agg #[.bool b1,.slice uo ul uc,.slice do_ dl dc]] wx fun e w'=>e=.returned (.bool false)/\wx.grownBy w' none)∨((Calls Tryz.prog 133 #[.agg #[.bool b1,.slice uo ul uc,.slice do_ dl dc]] wx fun e w'=>e=.returned (.bool true)/\wx.grownBy w' none)/\∀ wx:World,Calls Tryz.prog 133 #[.agg #[.bool b2,.slice vo vl vc,.slice eo el ec]] wx fun e w'=>e=.returned (.bool false)/\wx.grownBy w' none)) :
  Calls Tryz.prog 100 #[.agg #[.bool b1,.slice uo ul uc,.slice do_ dl dc],.agg #[.bool b2,.slice vo vl vc,.slice eo el ec]] w fun e w'=>fW w (yj b1 n1 d1 b2 n2 d2).1 (yj b1 n1 d1 b2 n2 d2).2.1 (yj b1 n1 d1 b2 n2 d2).2.2 (L1+L2+2) e w':=by
 have HX:=ab hx;have HY:=ab hy;obtain ⟨hd1,hd1L⟩:=hx.down_le;obtain ⟨hd2,hd2L⟩:=hy.down_le;have hc1:=hx.cop;have hc2:=hy.cop;have NX:Hid (aU w (.slice uo ul uc) n1 L1):=by
  obtain ⟨up,down,e,h1,_⟩:=hx;simp only [Value.agg.injEq,Array.mk.injEq,List.cons.injEq,and_true,true_and] at e;rw [e.1];exact h1
 have NY:Hid (aU w (.slice vo vl vc) n2 L2):=by
  obtain ⟨up,down,e,h1,_⟩:=hy;simp only [Value.agg.injEq,Array.mk.injEq,List.cons.injEq,and_true,true_and] at e;rw [e.1];exact h1
 clear hx hy;obtain ⟨G,eG⟩:∃ G,G=Nat.gcd d1 d2:=⟨_,rfl⟩;have hG:0<G:=by rw [eG];exact Nat.gcd_pos_of_pos_left _ hd1
 obtain ⟨X1,eX1⟩:∃ X,X=d1 / G:=⟨_,rfl⟩;obtain ⟨Y1,eY1⟩:∃ X,X=d2 / G:=⟨_,rfl⟩;obtain ⟨T,eT⟩:∃ X,X=iI b1 (n1*Y1) b2 (n2*X1):=⟨_,rfl⟩;obtain ⟨B,eB⟩:∃ X,X=jK b1 (n1*Y1) b2 (n2*X1):=⟨_,rfl⟩;obtain ⟨H,eH⟩:∃ X,X=Nat.gcd T G:=⟨_,rfl⟩;have hH:0<H:=by rw [eH];exact Nat.gcd_pos_of_pos_right _ hG
 obtain ⟨U,eU⟩:∃ X,X=T / H:=⟨_,rfl⟩;obtain ⟨V,eV⟩:∃ X,X=d2 / H:=⟨_,rfl⟩;have hX1:X1<4294967296^(L1+1):=by rw [eX1];exact mV (Nat.le_trans (Nat.div_le_self _ _) hd1L)
 have hY1:Y1<4294967296^(L2+1):=by rw [eY1];exact mV (Nat.le_trans (Nat.div_le_self _ _) hd2L)
 have hV:V<4294967296^(L2+1):=by rw [eV];exact mV (Nat.le_trans (Nat.div_le_self _ _) hd2L)
 have hPL:yj b1 n1 d1 b2 n2 d2=bn B U (X1*V):=by rw [eB,eU,eV,eH,eT,eX1,eY1,eG];rfl
 obtain ⟨hV0,hCOP⟩:0<X1*V/\(U=0∨Nat.gcd U (X1*V)=1):=by
  rw [eU,eV,eH,eT,eX1,eY1,eG];exact ⟨(uI b1 b2 hc1 hc2 hd1 hd2).1,.inr (uI b1 b2 hc1 hc2 hd1 hd2).2⟩
 have HCOP:=ab hCOP;have EG:=ab eG;have EX1:=ab eX1;have EY1:=ab eY1;have ET:=ab eT;have EB:=ab eB;have EH:=ab eH;have EU:=ab eU;have EV:=ab eV;rw [hPL];clear hPL hCOP eG eX1 eY1 eT eB eH eU eV hc1 hc2 hd1L hd2L;obtain ⟨W,hW⟩:∃ W,W=((w.alloc (Obj.cells #[.bool b1,.slice uo ul uc,.slice do_ dl dc] 91)).alloc (Obj.cells #[.bool b2,.slice vo vl vc,.slice eo el ec] 91)).alloc (Obj.cells #[.bool false,.slice none 0 0,.slice none 0 0] 91):=⟨_,rfl⟩;have GW:Hid (w.grownBy W none):=by rw [hW];exact ag (ag (ag (ae _ _) _) _) _
 have NW:Hid (∀ wx,W.grownBy wx none->bO wx (w.heap.size+1+1)):=by
  intro wx hg;rw [hW] at hg;have:=bu hg;simpa using this
 have CELLS:Hid (∀ wx,W.grownBy wx none->(wx.cell? ⟨w.heap.size,0,none⟩=some (.bool b1)/\wx.cell? ⟨w.heap.size,1,none⟩=some (.slice uo ul uc)/\wx.cell? ⟨w.heap.size,2,none⟩=some (.slice do_ dl dc))/\(wx.cell? ⟨w.heap.size+1,0,none⟩=some (.bool b2)/\wx.cell? ⟨w.heap.size+1,1,none⟩=some (.slice vo vl vc)/\wx.cell? ⟨w.heap.size+1,2,none⟩=some (.slice eo el ec))/\(wx.cell? ⟨w.heap.size+1+1,0,none⟩=some (.bool false)/\wx.cell? ⟨w.heap.size+1+1,1,none⟩=some (.slice none 0 0)/\wx.cell? ⟨w.heap.size+1+1,2,none⟩=some (.slice none 0 0))/\∀ i,wx.frozen? ⟨w.heap.size+1+1,i,none⟩=false):=by
  intro wx hg;rw [hW] at hg;have a1:=aJ (aa (ag (ag (ae _ none) _) _) hg);have a2:=aJ (w:=w.alloc (Obj.cells #[.bool b1,.slice uo ul uc,.slice do_ dl dc] 91)) (aa (ag (ae _ none) _) hg);have a3:=aV hg;have e3:((w.alloc (Obj.cells #[.bool b1,.slice uo ul uc,.slice do_ dl dc] 91)).alloc (Obj.cells #[.bool b2,.slice vo vl vc,.slice eo el ec] 91)).heap.size=w.heap.size+1+1:=by simp
  rw [e3] at a3;refine ⟨a1,by simpa using a2,?_,?_⟩
  ·exact ⟨a3.1,a3.2.1,a3.2.2.1⟩
  ·exact a3.2.2.2
 obtain ⟨⟨s0,s1,s2⟩,⟨t0,t1,t2⟩,⟨r0,r1,r2⟩,rf⟩:=CELLS.out W (ae _ _);clear rf;have hne1:¬ w.heap.size+1+1=w.heap.size:=by omega
 have hne2:¬ w.heap.size=w.heap.size+1+1:=by omega
 have hne3:¬ w.heap.size+1+1=w.heap.size+1:=by omega
 have HWH:=ab hwh;clear hwh;go_enter Tryz.func100,Tryz.ntmps100
 go_upto_region 1 with fail;rw [<- hW];clear hW;go_cut [18] (fun s18 wx=>Hid (s18=.bool false/\W.grownBy wx none))
 case first =>
  go_wp2_with fail;rcases HWH.out W with h | ⟨h,h2⟩
  ·refine h.mono ?_;rintro e w1 ⟨rfl,g1⟩;go_wp2_with fail;go_meet
   exact ⟨rfl,g1⟩
  ·refine h.mono ?_;rintro e w1 ⟨rfl,g1⟩;obtain ⟨⟨a0,a1,a2⟩,⟨a3,a4,a5⟩,_⟩:=CELLS.out w1 g1;go_wp2_with fail;refine (h2 _).mono ?_;rintro e w2 ⟨rfl,g2⟩;go_wp2_with fail;go_meet
   exact ⟨rfl,aa g1 g2⟩
 case rest =>
  obtain ⟨rfl,GG⟩:=hcut.out;clear hcut s0 s1 s2 t0 t1 t2 r0 r1 r2;obtain ⟨⟨s0,s1,s2⟩,⟨s3,s4,s5⟩,_⟩:=CELLS.out wc GG;go_wp2;go_cut [7] (fun s7 wx=>Hid (W.grownBy wx none/\(∃ o l c,s7=.slice o l c)/\aU wx s7 G (L1+L2+1)))
  case first =>
   go_region_held3 (fun w'=>w'.cell? ⟨w.heap.size,0,none⟩=some (.bool b1)/\w'.cell? ⟨w.heap.size,1,none⟩=some (.slice uo ul uc)/\w'.cell? ⟨w.heap.size,2,none⟩=some (.slice do_ dl dc)/\w'.cell? ⟨w.heap.size+1,0,none⟩=some (.bool b2)/\w'.cell? ⟨w.heap.size+1,1,none⟩=some (.slice vo vl vc)/\w'.cell? ⟨w.heap.size+1,2,none⟩=some (.slice eo el ec)) (go_keep)
    (first | (go_at_call_of 136 (Value.agg #[.bool b1,.slice uo ul uc,.slice do_ dl dc]);refine (gP _ b1 n1 d1 L1 _ (HX.out.keep0 (aa GW.out (by first | exact aa GG (aj _) | exact aa GG ah | exact GG)))).mono ?_;rintro e wa ⟨va,rfl,pa,ga⟩;obtain ⟨ao,al,ac,rfl,_,_,_⟩:=pa.shape;have KP:=aa (by first | exact aj _ | exact ah | exact ae _ _) ga;have GG:W.grownBy wa none:=aa (by first | exact aa GG (aj _) | exact aa GG ah | exact GG) ga;(try have pb:=pb.keep0 KP);(try have px:=px.keep0 KP);clear KP;obtain ⟨⟨ca0,ca1,ca2⟩,⟨ca3,ca4,ca5⟩,⟨ca6,ca7,ca8⟩,caf⟩:=CELLS.out wa GG;have caf0:=caf 0;have caf1:=caf 1;have caf2:=caf 2;clear caf) | (go_at_call_of 136 (Value.agg #[.bool b2,.slice vo vl vc,.slice eo el ec]);refine (gP _ b2 n2 d2 L2 _ (HY.out.keep0 (aa GW.out (by first | exact aa GG (aj _) | exact aa GG ah | exact GG)))).mono ?_;rintro e wb ⟨vb,rfl,pb,gb⟩;obtain ⟨bo,bl,bc,rfl,_,_,_⟩:=pb.shape;have KP:=aa (by first | exact aj _ | exact ah | exact ae _ _) gb;have GG:W.grownBy wb none:=aa (by first | exact aa GG (aj _) | exact aa GG ah | exact GG) gb;(try have pa:=pa.keep0 KP);(try have px:=px.keep0 KP);clear KP;obtain ⟨⟨cb0,cb1,cb2⟩,⟨cb3,cb4,cb5⟩,⟨cb6,cb7,cb8⟩,cbf⟩:=CELLS.out wb GG;have cbf0:=cbf 0;have cbf1:=cbf 1;have cbf2:=cbf 2;clear cbf) | (go_at_call 135;refine (n8 _ _ d1 d2 (L1+L2+1) _ ((pa.keep0 (by first | exact aj _ | exact ah | exact ae _ _)).mono (by omega)) ((pb.keep0 (by first | exact aj _ | exact ah | exact ae _ _)).mono (by omega)) (.inl hd1) (by omega)).mono ?_;rintro e wx ⟨vx,rfl,px,gx⟩;rw [<- EG.out] at px;obtain ⟨xo,xl,xc,rfl,_,_,_⟩:=px.shape;have KP:=aa (by first | exact aj _ | exact ah | exact ae _ _) gx;have GG:W.grownBy wx none:=aa (by first | exact aa GG (aj _) | exact aa GG ah | exact GG) gx;(try have pa:=pa.keep0 KP);(try have pb:=pb.keep0 KP);clear KP;obtain ⟨⟨cx0,cx1,cx2⟩,⟨cx3,cx4,cx5⟩,⟨cx6,cx7,cx8⟩,cxf⟩:=CELLS.out wx GG;have cxf0:=cxf 0;have cxf1:=cxf 1;have cxf2:=cxf 2;clear cxf))
   all_goals (go_wp2_with fail;go_meet;exact ⟨(by first | exact aa GG (aj _) | exact aa GG ah | exact GG),⟨_,_,_,rfl⟩,(px.keep0 (by first | exact aj _ | exact ah | exact ae _ _))⟩)
  case rest =>
   clear GG s0 s1 s2 s3 s4 s5;obtain ⟨GG,⟨go,gl,gc,rfl⟩,S7⟩:=hcut.out;clear hcut;obtain ⟨⟨s0,s1,s2⟩,⟨s3,s4,s5⟩,_⟩:=CELLS.out wc GG;go_wp2;go_cut [8,9] (fun s8 s9 wx=>Hid (W.grownBy wx none/\(∃ o l c,s8=.slice o l c)/\(∃ o l c,s9=.slice o l c)/\aU wx s8 X1 (L1+L2+1)/\aU wx s9 Y1 (L1+L2+1)/\aU wx (.slice go gl gc) G (L1+L2+1)))
   case first =>
    go_region_held3 (fun w'=>w'.cell? ⟨w.heap.size,0,none⟩=some (.bool b1)/\w'.cell? ⟨w.heap.size,1,none⟩=some (.slice uo ul uc)/\w'.cell? ⟨w.heap.size,2,none⟩=some (.slice do_ dl dc)/\w'.cell? ⟨w.heap.size+1,0,none⟩=some (.bool b2)/\w'.cell? ⟨w.heap.size+1,1,none⟩=some (.slice vo vl vc)/\w'.cell? ⟨w.heap.size+1,2,none⟩=some (.slice eo el ec)) (go_keep)
     (first | (go_at_call_of 136 (Value.agg #[.bool b1,.slice uo ul uc,.slice do_ dl dc]);refine (gP _ b1 n1 d1 L1 _ (HX.out.keep0 (aa GW.out (by first | exact aa GG (aj _) | exact aa GG ah | exact GG)))).mono ?_;rintro e wa ⟨va,rfl,pa,ga⟩;obtain ⟨ao,al,ac,rfl,_,_,_⟩:=pa.shape;have KP:=aa (by first | exact aj _ | exact ah | exact ae _ _) ga;have GG:W.grownBy wa none:=aa (by first | exact aa GG (aj _) | exact aa GG ah | exact GG) ga;(try have pb:=pb.keep0 KP);(try have px:=px.keep0 KP);(try have py:=py.keep0 KP);(try have S7:=S7.keep0 KP);clear KP;obtain ⟨⟨ca0,ca1,ca2⟩,⟨ca3,ca4,ca5⟩,⟨ca6,ca7,ca8⟩,caf⟩:=CELLS.out wa GG;have caf0:=caf 0;have caf1:=caf 1;have caf2:=caf 2;clear caf) | (go_at_call_of 136 (Value.agg #[.bool b2,.slice vo vl vc,.slice eo el ec]);refine (gP _ b2 n2 d2 L2 _ (HY.out.keep0 (aa GW.out (by first | exact aa GG (aj _) | exact aa GG ah | exact GG)))).mono ?_;rintro e wb ⟨vb,rfl,pb,gb⟩;obtain ⟨bo,bl,bc,rfl,_,_,_⟩:=pb.shape;have KP:=aa (by first | exact aj _ | exact ah | exact ae _ _) gb;have GG:W.grownBy wb none:=aa (by first | exact aa GG (aj _) | exact aa GG ah | exact GG) gb;(try have pa:=pa.keep0 KP);(try have px:=px.keep0 KP);(try have py:=py.keep0 KP);(try have S7:=S7.keep0 KP);clear KP;obtain ⟨⟨cb0,cb1,cb2⟩,⟨cb3,cb4,cb5⟩,⟨cb6,cb7,cb8⟩,cbf⟩:=CELLS.out wb GG;have cbf0:=cbf 0;have cbf1:=cbf 1;have cbf2:=cbf 2;clear cbf) | (go_at_call_of 137 (Value.slice ao al ac);refine (fM _ _ d1 G (L1+L2+1) _ ((pa.keep0 (by first | exact aj _ | exact ah | exact ae _ _)).mono (by omega)) (S7.keep0 (by first | exact aj _ | exact ah | exact ae _ _)) hG (by omega)).mono ?_;rintro e wx ⟨vx,rfl,px,gx⟩;rw [<- EX1.out] at px;obtain ⟨xo,xl,xc,rfl,_,_,_⟩:=px.shape;have KP:=aa (by first | exact aj _ | exact ah | exact ae _ _) gx;have GG:W.grownBy wx none:=aa (by first | exact aa GG (aj _) | exact aa GG ah | exact GG) gx;(try have pa:=pa.keep0 KP);(try have pb:=pb.keep0 KP);(try have py:=py.keep0 KP);(try have S7:=S7.keep0 KP);clear KP;obtain ⟨⟨cx0,cx1,cx2⟩,⟨cx3,cx4,cx5⟩,⟨cx6,cx7,cx8⟩,cxf⟩:=CELLS.out wx GG;have cxf0:=cxf 0;have cxf1:=cxf 1;have cxf2:=cxf 2;clear cxf) | (go_at_call_of 137 (Value.slice bo bl bc);refine (fM _ _ d2 G (L1+L2+1) _ ((pb.keep0 (by first | exact aj _ | exact ah | exact ae _ _)).mono (by omega)) (S7.keep0 (by first | exact aj _ | exact ah | exact ae _ _)) hG (by omega)).mono ?_;rintro e wy ⟨vy,rfl,py,gy⟩;rw [<- EY1.out] at py;obtain ⟨yo,yl,yc,rfl,_,_,_⟩:=py.shape;have KP:=aa (by first | exact aj _ | exact ah | exact ae _ _) gy;have GG:W.grownBy wy none:=aa (by first | exact aa GG (aj _) | exact aa GG ah | exact GG) gy;(try have pa:=pa.keep0 KP);(try have pb:=pb.keep0 KP);(try have px:=px.keep0 KP);(try have S7:=S7.keep0 KP);clear KP;obtain ⟨⟨cy0,cy1,cy2⟩,⟨cy3,cy4,cy5⟩,⟨cy6,cy7,cy8⟩,cyf⟩:=CELLS.out wy GG;have cyf0:=cyf 0;have cyf1:=cyf 1;have cyf2:=cyf 2;clear cyf))
    all_goals (go_wp2_with fail;go_meet;exact ⟨(by first | exact aa GG (aj _) | exact aa GG ah | exact GG),⟨_,_,_,rfl⟩,⟨_,_,_,rfl⟩,(px.keep0 (by first | exact aj _ | exact ah | exact ae _ _)),(py.keep0 (by first | exact aj _ | exact ah | exact ae _ _)),(S7.keep0 (by first | exact aj _ | exact ah | exact ae _ _))⟩)
   case rest =>
    clear GG s0 s1 s2 s3 s4 s5 S7;obtain ⟨GG,⟨ho,hl8,hc,rfl⟩,⟨io,il,ic,rfl⟩,S8,S9,S7⟩:=hcut.out;clear hcut;obtain ⟨⟨s0,s1,s2⟩,⟨s3,s4,s5⟩,_⟩:=CELLS.out wc GG;go_wp2;go_cut [10,11] (fun s10 s11 wx=>Hid (W.grownBy wx none/\s10=.bool B/\(∃ o l c,s11=.slice o l c)/\aU wx s11 T (L1+L2+2)/\aU wx (.slice go gl gc) G (L1+L2+1)/\aU wx (.slice ho hl8 hc) X1 (L1+L2+1)))
    case first =>
     go_region_held3 (fun w'=>w'.cell? ⟨w.heap.size,0,none⟩=some (.bool b1)/\w'.cell? ⟨w.heap.size,1,none⟩=some (.slice uo ul uc)/\w'.cell? ⟨w.heap.size,2,none⟩=some (.slice do_ dl dc)/\w'.cell? ⟨w.heap.size+1,0,none⟩=some (.bool b2)/\w'.cell? ⟨w.heap.size+1,1,none⟩=some (.slice vo vl vc)/\w'.cell? ⟨w.heap.size+1,2,none⟩=some (.slice eo el ec)) (go_keep)
      (first | (go_at_call_of 138 (Value.slice uo ul uc);refine (gJ _ _ n1 Y1 L1 (L2+1) _ (NX.out.keep0 (aa GW.out (by first | exact aa GG (aj _) | exact aa GG ah | exact GG))) ((S9.keep0 (by first | exact aj _ | exact ah | exact ae _ _)).tight hY1) (by omega)).mono ?_;rintro e wa ⟨va,rfl,pa,ga,_⟩;obtain ⟨ao,al,ac,rfl,_,_,_⟩:=pa.shape;have KP:=aa (by first | exact aj _ | exact ah | exact ae _ _) ga;have GG:W.grownBy wa none:=aa (by first | exact aa GG (aj _) | exact aa GG ah | exact GG) ga;(try have pb:=pb.keep0 KP);(try have px:=px.keep0 KP);(try have S7:=S7.keep0 KP);(try have S8:=S8.keep0 KP);(try have S9:=S9.keep0 KP);clear KP;obtain ⟨⟨ca0,ca1,ca2⟩,⟨ca3,ca4,ca5⟩,⟨ca6,ca7,ca8⟩,caf⟩:=CELLS.out wa GG;have caf0:=caf 0;have caf1:=caf 1;have caf2:=caf 2;clear caf) | (go_at_call_of 138 (Value.slice vo vl vc);refine (gJ _ _ n2 X1 L2 (L1+1) _ (NY.out.keep0 (aa GW.out (by first | exact aa GG (aj _) | exact aa GG ah | exact GG))) ((S8.keep0 (by first | exact aj _ | exact ah | exact ae _ _)).tight hX1) (by omega)).mono ?_;rintro e wb ⟨vb,rfl,pb,gb,_⟩;obtain ⟨bo,bl,bc,rfl,_,_,_⟩:=pb.shape;have KP:=aa (by first | exact aj _ | exact ah | exact ae _ _) gb;have GG:W.grownBy wb none:=aa (by first | exact aa GG (aj _) | exact aa GG ah | exact GG) gb;(try have pa:=pa.keep0 KP);(try have px:=px.keep0 KP);(try have S7:=S7.keep0 KP);(try have S8:=S8.keep0 KP);(try have S9:=S9.keep0 KP);clear KP;obtain ⟨⟨cb0,cb1,cb2⟩,⟨cb3,cb4,cb5⟩,⟨cb6,cb7,cb8⟩,cbf⟩:=CELLS.out wb GG;have cbf0:=cbf 0;have cbf1:=cbf 1;have cbf2:=cbf 2;clear cbf) | (go_at_call 134;refine (Db _ _ b1 b2 (n1*Y1) (L1+(L2+1)) (n2*X1) (L2+(L1+1)) _ (pa.keep0 (by first | exact aj _ | exact ah | exact ae _ _)) (pb.keep0 (by first | exact aj _ | exact ah | exact ae _ _)) (by omega)).mono ?_;rintro e wx ⟨vx,rfl,px,gx⟩;rw [<- ET.out] at px;rw [<- EB.out];obtain ⟨xo,xl,xc,rfl,_,_,_⟩:=px.shape;have KP:=aa (by first | exact aj _ | exact ah | exact ae _ _) gx;have GG:W.grownBy wx none:=aa (by first | exact aa GG (aj _) | exact aa GG ah | exact GG) gx;(try have pa:=pa.keep0 KP);(try have pb:=pb.keep0 KP);(try have S7:=S7.keep0 KP);(try have S8:=S8.keep0 KP);(try have S9:=S9.keep0 KP);clear KP;obtain ⟨⟨cx0,cx1,cx2⟩,⟨cx3,cx4,cx5⟩,⟨cx6,cx7,cx8⟩,cxf⟩:=CELLS.out wx GG;have cxf0:=cxf 0;have cxf1:=cxf 1;have cxf2:=cxf 2;clear cxf))
     all_goals (go_wp2_with fail;go_meet;exact ⟨(by first | exact aa GG (aj _) | exact aa GG ah | exact GG),rfl,⟨_,_,_,rfl⟩,(px.keep0 (by first | exact aj _ | exact ah | exact ae _ _)).mono (by omega),(S7.keep0 (by first | exact aj _ | exact ah | exact ae _ _)),(S8.keep0 (by first | exact aj _ | exact ah | exact ae _ _))⟩)
    case rest =>
     clear GG s0 s1 s2 s3 s4 s5 S7 S8 S9;obtain ⟨GG,rfl,⟨jo,jl,jc,rfl⟩,S11,S7,S8⟩:=hcut.out;clear hcut;obtain ⟨⟨s0,s1,s2⟩,⟨s3,s4,s5⟩,_⟩:=CELLS.out wc GG;go_wp2_with fail;refine (n8 _ _ T G (L1+L2+2) _ S11 (S7.mono (by omega)) (.inr hG) (by omega)).mono ?_;rintro e w12 ⟨v12,rfl,p12,g12⟩;rw [<- EH.out] at p12;obtain ⟨ko,kl,kc,rfl,_,_,_⟩:=p12.shape;have S12:=p12;have S11':=S11.keep0 g12;have S8':=S8.keep0 g12;have GG':W.grownBy w12 none:=aa GG g12;clear GG s0 s1 s2 s3 s4 s5 S11 S7 S8 g12 p12;have GG:=GG';have S11:=S11';have S8:=S8';clear GG' S11' S8';obtain ⟨⟨s0,s1,s2⟩,⟨s3,s4,s5⟩,_⟩:=CELLS.out w12 GG;go_wp2;go_region_held3 (fun w'=>w'.cell? ⟨w.heap.size,0,none⟩=some (.bool b1)/\w'.cell? ⟨w.heap.size,1,none⟩=some (.slice uo ul uc)/\w'.cell? ⟨w.heap.size,2,none⟩=some (.slice do_ dl dc)/\w'.cell? ⟨w.heap.size+1,0,none⟩=some (.bool b2)/\w'.cell? ⟨w.heap.size+1,1,none⟩=some (.slice vo vl vc)/\w'.cell? ⟨w.heap.size+1,2,none⟩=some (.slice eo el ec)) (go_keep)
      (first | (go_at_call_of 137 (Value.slice jo jl jc);refine (fM _ _ T H (L1+L2+2) _ (S11.keep0 (by first | exact aj _ | exact ah | exact ae _ _)) ((S12.keep0 (by first | exact aj _ | exact ah | exact ae _ _)).mono (by omega)) hH (by omega)).mono ?_;rintro e wa ⟨va,rfl,pa,ga⟩;rw [<- EU.out] at pa;obtain ⟨ao,al,ac,rfl,_,_,_⟩:=pa.shape;have KP:=aa (by first | exact aj _ | exact ah | exact ae _ _) ga;have GG:W.grownBy wa none:=aa (by first | exact aa GG (aj _) | exact aa GG ah | exact GG) ga;(try have pb:=pb.keep0 KP);(try have px:=px.keep0 KP);(try have py:=py.keep0 KP);(try have S11:=S11.keep0 KP);(try have S12:=S12.keep0 KP);(try have S8:=S8.keep0 KP);clear KP;obtain ⟨⟨ca0,ca1,ca2⟩,⟨ca3,ca4,ca5⟩,⟨ca6,ca7,ca8⟩,caf⟩:=CELLS.out wa GG;have caf0:=caf 0;have caf1:=caf 1;have caf2:=caf 2;clear caf) | (go_at_call_of 136 (Value.agg #[.bool b2,.slice vo vl vc,.slice eo el ec]);refine (gP _ b2 n2 d2 L2 _ (HY.out.keep0 (aa GW.out (by first | exact aa GG (aj _) | exact aa GG ah | exact GG)))).mono ?_;rintro e wb ⟨vb,rfl,pb,gb⟩;obtain ⟨bo,bl,bc,rfl,_,_,_⟩:=pb.shape;have KP:=aa (by first | exact aj _ | exact ah | exact ae _ _) gb;have GG:W.grownBy wb none:=aa (by first | exact aa GG (aj _) | exact aa GG ah | exact GG) gb;(try have pa:=pa.keep0 KP);(try have px:=px.keep0 KP);(try have py:=py.keep0 KP);(try have S11:=S11.keep0 KP);(try have S12:=S12.keep0 KP);(try have S8:=S8.keep0 KP);clear KP;obtain ⟨⟨cb0,cb1,cb2⟩,⟨cb3,cb4,cb5⟩,⟨cb6,cb7,cb8⟩,cbf⟩:=CELLS.out wb GG;have cbf0:=cbf 0;have cbf1:=cbf 1;have cbf2:=cbf 2;clear cbf) | (go_at_call_of 137 (Value.slice bo bl bc);refine (fM _ _ d2 H (L1+L2+2) _ ((pb.keep0 (by first | exact aj _ | exact ah | exact ae _ _)).mono (by omega)) (S12.keep0 (by first | exact aj _ | exact ah | exact ae _ _)) hH (by omega)).mono ?_;rintro e wx ⟨vx,rfl,px,gx⟩;rw [<- EV.out] at px;obtain ⟨xo,xl,xc,rfl,_,_,_⟩:=px.shape;have KP:=aa (by first | exact aj _ | exact ah | exact ae _ _) gx;have GG:W.grownBy wx none:=aa (by first | exact aa GG (aj _) | exact aa GG ah | exact GG) gx;(try have pa:=pa.keep0 KP);(try have pb:=pb.keep0 KP);(try have py:=py.keep0 KP);(try have S11:=S11.keep0 KP);(try have S12:=S12.keep0 KP);(try have S8:=S8.keep0 KP);clear KP;obtain ⟨⟨cx0,cx1,cx2⟩,⟨cx3,cx4,cx5⟩,⟨cx6,cx7,cx8⟩,cxf⟩:=CELLS.out wx GG;have cxf0:=cxf 0;have cxf1:=cxf 1;have cxf2:=cxf 2;clear cxf) | (go_at_call 138;refine (gJ _ _ X1 V (L1+1) (L2+1) _ ((S8.keep0 (by first | exact aj _ | exact ah | exact ae _ _)).tight hX1) ((px.keep0 (by first | exact aj _ | exact ah | exact ae _ _)).tight hV) (by omega)).mono ?_;rintro e wy ⟨vy,rfl,py,gy,_⟩;obtain ⟨yo,yl,yc,rfl,_,_,_⟩:=py.shape;have KP:=aa (by first | exact aj _ | exact ah | exact ae _ _) gy;have GG:W.grownBy wy none:=aa (by first | exact aa GG (aj _) | exact aa GG ah | exact GG) gy;(try have pa:=pa.keep0 KP);(try have pb:=pb.keep0 KP);(try have px:=px.keep0 KP);(try have S11:=S11.keep0 KP);(try have S12:=S12.keep0 KP);(try have S8:=S8.keep0 KP);clear KP;obtain ⟨⟨cy0,cy1,cy2⟩,⟨cy3,cy4,cy5⟩,⟨cy6,cy7,cy8⟩,cyf⟩:=CELLS.out wy GG;have cyf0:=cyf 0;have cyf1:=cyf 1;have cyf2:=cyf 2;clear cyf) | (go_at_call 139;refine (kx _ _ _ U (X1*V) (L1+L2+2) _ (pa.keep0 (by first | exact aj _ | exact ah | exact ae _ _)) ((py.keep0 (by first | exact aj _ | exact ah | exact ae _ _)).mono (by omega)) hV0 HCOP.out).mono ?_;rintro e wf ⟨v6,rfl,f1,f2⟩;obtain ⟨fo,fl,fc,fo2,fl2,fc2,rfl⟩:=f1.shape;have GG:W.grownBy wf none:=aa (by first | exact aa GG (aj _) | exact aa GG ah | exact GG) f2;obtain ⟨⟨g0,g1,g2⟩,⟨g3,g4,g5⟩,⟨g6,g7,g8⟩,gf⟩:=CELLS.out wf GG;have gf0:=gf 0;have gf1:=gf 1;have gf2:=gf 2;clear gf))
     all_goals
      have F1:=ab f1;have HGd:=ab GG;clear f1 f2;go_wp2;refine bodyPost_ret (v:=.agg #[.bool (bn B U (X1*V)).1,.slice fo fl fc,.slice fo2 fl2 fc2]) (by first | (simp [results,Tryz.results100,go_sem,g6,g7,g8];done) | (simp [results,Tryz.results100,go_sem,g6,g7,g8];rfl)) rfl ?_;exact ⟨_,rfl,F1.out.other (NW.out wf HGd.out) bF,ai (ai (ai (aa GW.out HGd.out) _ _ (by simp;omega)) _ _ (by simp;omega)) _ _ (by simp;omega)⟩
theorem uO (uo vo:Option Addr) (ul uc vl vc:Nat) (b1 b2:Bool) (n1 L1 n2 L2:Nat) (w:World) (hx:aU w (.slice uo ul uc) n1 L1) (hy:aU w (.slice vo vl vc) n2 L2) (hp1:b1=true->0<n1) (hp2:b2=true->0<n2) (hl:L1+L2<=4000000000000) :
  Calls Tryz.prog 100 #[.agg #[.bool b1,.slice uo ul uc,.slice none 0 0],.agg #[.bool b2,.slice vo vl vc,.slice none 0 0]] w fun e w'=>fW w (jK b1 n1 b2 n2) (iI b1 n1 b2 n2) 1 (L1+L2+2) e w':=by
 have NX:=ab hx;have NY:=ab hy;have HP:=ab (yC b1 n1 b2 n2 hp1 hp2);clear hx hy hp1 hp2;obtain ⟨W,hW⟩:∃ W,W=((w.alloc (Obj.cells #[.bool b1,.slice uo ul uc,.slice none 0 0] 91)).alloc (Obj.cells #[.bool b2,.slice vo vl vc,.slice none 0 0] 91)).alloc (Obj.cells #[.bool false,.slice none 0 0,.slice none 0 0] 91):=⟨_,rfl⟩;have GW:Hid (w.grownBy W none):=by rw [hW];exact ag (ag (ag (ae _ _) _) _) _
 have NW:Hid (∀ wx,W.grownBy wx none->bO wx (w.heap.size+1+1)):=by
  intro wx hg;rw [hW] at hg;have:=bu hg;simpa using this
 have CELLS:Hid (∀ wx,W.grownBy wx none->(wx.cell? ⟨w.heap.size,0,none⟩=some (.bool b1)/\wx.cell? ⟨w.heap.size,1,none⟩=some (.slice uo ul uc)/\wx.cell? ⟨w.heap.size,2,none⟩=some (.slice none 0 0))/\(wx.cell? ⟨w.heap.size+1,0,none⟩=some (.bool b2)/\wx.cell? ⟨w.heap.size+1,1,none⟩=some (.slice vo vl vc)/\wx.cell? ⟨w.heap.size+1,2,none⟩=some (.slice none 0 0))/\(wx.cell? ⟨w.heap.size+1+1,0,none⟩=some (.bool false)/\wx.cell? ⟨w.heap.size+1+1,1,none⟩=some (.slice none 0 0)/\wx.cell? ⟨w.heap.size+1+1,2,none⟩=some (.slice none 0 0))/\∀ i,wx.frozen? ⟨w.heap.size+1+1,i,none⟩=false):=by
  intro wx hg;rw [hW] at hg;have a1:=aJ (aa (ag (ag (ae _ none) _) _) hg);have a2:=aJ (w:=w.alloc (Obj.cells #[.bool b1,.slice uo ul uc,.slice none 0 0] 91)) (aa (ag (ae _ none) _) hg);have a3:=aV hg;have e3:((w.alloc (Obj.cells #[.bool b1,.slice uo ul uc,.slice none 0 0] 91)).alloc (Obj.cells #[.bool b2,.slice vo vl vc,.slice none 0 0] 91)).heap.size=w.heap.size+1+1:=by simp
  rw [e3] at a3;refine ⟨a1,by simpa using a2,?_,?_⟩
  ·exact ⟨a3.1,a3.2.1,a3.2.2.1⟩
  ·exact a3.2.2.2
 obtain ⟨⟨s0,s1,s2⟩,⟨t0,t1,t2⟩,⟨r0,r1,r2⟩,rf⟩:=CELLS.out W (ae _ _);clear rf;have hne1:¬ w.heap.size+1+1=w.heap.size:=by omega
 have hne2:¬ w.heap.size=w.heap.size+1+1:=by omega
 have hne3:¬ w.heap.size+1+1=w.heap.size+1:=by omega
 go_enter Tryz.func100,Tryz.ntmps100
 go_wp2_with fail;rw [<- hW];clear hW;refine (cM _ _ _ _ _).mono ?_;rintro e w1 ⟨rfl,g1⟩;have G1:=ab g1;obtain ⟨⟨a0,a1,a2⟩,⟨a3,a4,a5⟩,_⟩:=CELLS.out w1 g1;clear g1;go_wp2_with fail;refine (cM _ _ _ _ _).mono ?_;rintro e w2 ⟨rfl,g2⟩;have G2:=ab (aa G1.out g2);obtain ⟨⟨c0,c1,c2⟩,⟨c3,c4,c5⟩,_⟩:=CELLS.out w2 G2.out;clear g2;go_wp2_with fail;refine (Db _ _ b1 b2 n1 L1 n2 L2 _ (NX.out.keep0 (aa GW.out G2.out)) (NY.out.keep0 (aa GW.out G2.out)) (by omega)).mono ?_;rintro e w3 ⟨v3,rfl,p1,p2⟩;obtain ⟨xo,xl,xc,rfl,_,_,_⟩:=p1.shape;have P1:=ab p1;have G3:=ab (aa G2.out p2);obtain ⟨⟨k0,k1,k2⟩,⟨k3,k4,k5⟩,⟨k6,k7,k8⟩,kf⟩:=CELLS.out w3 G3.out;have kf0:=kf 0;have kf1:=kf 1;have kf2:=kf 2;clear kf p1 p2;go_wp2;refine bodyPost_ret (v:=.agg #[.bool (jK b1 n1 b2 n2),.slice xo xl xc,.slice none 0 0]) (by first | (simp [results,Tryz.results100,go_sem,k6,k7,k8];done) | (simp [results,Tryz.results100,go_sem,k6,k7,k8];rfl)) rfl ?_;refine ⟨_,rfl,?_,ai (ai (ai (aa GW.out G3.out) _ _ (by simp;omega)) _ _ (by simp;omega)) _ _ (by simp;omega)⟩;have hF:FV w3 (.agg #[.bool (jK b1 n1 b2 n2),.slice xo xl xc,.slice none 0 0]) (jK b1 n1 b2 n2) (iI b1 n1 b2 n2) 1 (L1+L2+2) :=
  ⟨_,_,rfl,P1.out.mono (by omega),.inl ⟨rfl,rfl⟩,Nat.gcd_one_right _,HP.out⟩
 exact hF.other (NW.out w3 G3.out) bF
theorem wR {b:Bool} {n:Nat} (h:b=true->0<n):bn b n 1=(b,n,1):=by
 unfold bn;by_cases h0:n=0
 ·subst h0;cases b
  ·rfl
  ·exact absurd (h rfl) (by omega)
 ·rw [if_neg (by omega),Nat.gcd_one_right,Nat.div_one,Nat.div_one]
theorem mf (x y:Value) (p q:Rat) (L1 L2:Nat) (w:World) (hx:FQ w x p L1) (hy:FQ w y q L2) (hl:L1+L2<=4000000000000) :
  Calls Tryz.prog 100 #[x,y] w fun e w'=>AN w (p+q) (L1+L2+2) e w':=by
 have HX:=hx;have HY:=hy;obtain ⟨up,down,rfl,h1,h2,h3,h4⟩:=hx;obtain ⟨up2,down2,rfl,k1,k2,k3,k4⟩:=hy;obtain ⟨uo,ul,uc,rfl,_⟩:=h1.shape;obtain ⟨vo,vl,vc,rfl,_⟩:=k1.shape;rcases h2 with ⟨rfl,hd⟩ | ⟨h2,hd⟩
 ·rcases k2 with ⟨rfl,kd⟩ | ⟨k2,kd⟩
  ·refine (uO uo vo ul uc vl vc _ _ _ L1 _ L2 w h1 k1 h4 k4 hl).mono ?_;intro e w' h;have e1:=wR (yC (rB p) (rN p) (rB q) (rN q) h4 k4);refine fW.q (b:=jK (rB p) (rN p) (rB q) (rN q)) (n:=iI (rB p) (rN p) (rB q) (rN q)) (d:=1) ?_ (by rw [e1];exact h);rw [yD,fN,fN,Rat.add_def',hd,kd];simp
  ·obtain ⟨eo,el,ec,rfl,e1,e2,e3⟩:=k2.shape;have hel:0<el:=by
    rcases Nat.eq_zero_or_pos el with h | h
    ·have:=e1.1 h;omega
    ·exact h
   refine (pG uo vo none eo ul uc vl vc 0 0 el ec _ _ _ _ L1 _ _ L2 w HX HY hl (fun wx=>.inr ⟨cM _ _ _ _ wx,fun wy=>fB _ _ _ _ _ _ _ wy hel e2 e3⟩)).mono ?_;intro e w' h;exact fW.q (yk p q) h
 ·obtain ⟨do_,dl,dc,rfl,e1,e2,e3⟩:=h2.shape;have hdl:0<dl:=by
   rcases Nat.eq_zero_or_pos dl with h | h
   ·have:=e1.1 h;omega
   ·exact h
  obtain ⟨vo2,vl2,vc2,eo,el,ec,e⟩:=HY.shape;simp only [Value.agg.injEq,Array.mk.injEq,List.cons.injEq,and_true,true_and] at e;obtain ⟨_,rfl⟩:=e;refine (pG uo vo do_ eo ul uc vl vc dl dc el ec _ _ _ _ L1 _ _ L2 w HX HY hl (fun wx=>.inl (fB _ _ _ _ _ _ _ wx hdl e2 e3))).mono ?_;intro e w' h;exact fW.q (yk p q) h
theorem Ci (q:Rat):nV (rB q) (rN q)=rB (-q)/\rN (-q)=rN q/\(-q).den=q.den:=by
 refine ⟨?_,?_,rfl⟩
 ·unfold nV rB rN;rw [Rat.neg_num];by_cases h:q.num<0
  ·have h2:¬ -q.num<0:=by omega
   simp [h,h2];omega
  ·by_cases h0:q.num=0
   ·simp [h0]
   ·have h2:-q.num<0:=by omega
    simp [h,h2,h0];omega
 ·unfold rN;rw [Rat.neg_num,Int.natAbs_neg]
theorem qOpp_at (x:Value) (q:Rat) (L:Nat) (w:World) (hx:FQ w x q L) :
  Calls Tryz.prog 109 #[x] w fun e w'=>AN w (-q) L e w':=by
 refine (uD x _ _ _ L w hx).mono ?_;rintro e w' ⟨v,rfl,k1,k2⟩;refine ⟨v,rfl,?_,k2⟩;obtain ⟨h1,h2,h3⟩:=Ci q;rw [h1] at k1;unfold FQ;rw [h2,h3];exact k1
theorem bq (x:Value) (q:Rat) (L:Nat) (w:World) (hx:FQ w x q L) :
  Calls Tryz.prog 103 #[x] w fun e w'=>e=.returned (.bool (decide (q=0)))/\w.grownBy w' none:=by
 refine (mO x _ _ _ L w hx).mono ?_;rintro e w' ⟨rfl,k2⟩;refine ⟨?_,k2⟩;have:decide (rN q=0)=decide (q=0):=by
  rw [decide_eq_decide];exact ⟨Cw,fun h=>by rw [h];rfl⟩
 rw [this]
theorem cZ (x y:Value) (p q:Rat) (L1 L2:Nat) (w:World) (hx:FQ w x p L1) (hy:FQ w y q L2) (hl:L1+L2<=4000000000000) :
  Calls Tryz.prog 81 #[x,y] w fun e w'=>AN w (p-q) (L1+L2+2) e w':=by
 have HX:=ab hx;have HY:=ab hy;obtain ⟨uo,ul,uc,do_,dl,dc,rfl⟩:=hx.shape;obtain ⟨vo,vl,vc,eo,el,ec,rfl⟩:=hy.shape;obtain ⟨b1,eb1⟩:∃ b,b=rB p:=⟨_,rfl⟩;obtain ⟨b2,eb2⟩:∃ b,b=rB q:=⟨_,rfl⟩;rw [<- eb1,<- eb2];rw [<- eb1] at HX;rw [<- eb2] at HY;clear hx hy eb1 eb2;obtain ⟨W,hW⟩:∃ W,W=((w.alloc (Obj.cells #[.bool b1,.slice uo ul uc,.slice do_ dl dc] 91)).alloc (Obj.cells #[.bool b2,.slice vo vl vc,.slice eo el ec] 91)).alloc (Obj.cells #[.bool false,.slice none 0 0,.slice none 0 0] 91):=⟨_,rfl⟩;have GW:Hid (w.grownBy W none):=by rw [hW];exact ag (ag (ag (ae _ _) _) _) _
 have NW:Hid (∀ wx,W.grownBy wx none->bO wx (w.heap.size+1+1)):=by
  intro wx hg;rw [hW] at hg;have:=bu hg;simpa using this
 have CELLS:Hid (∀ wx,W.grownBy wx none->(wx.cell? ⟨w.heap.size,0,none⟩=some (.bool b1)/\wx.cell? ⟨w.heap.size,1,none⟩=some (.slice uo ul uc)/\wx.cell? ⟨w.heap.size,2,none⟩=some (.slice do_ dl dc))/\(wx.cell? ⟨w.heap.size+1,0,none⟩=some (.bool b2)/\wx.cell? ⟨w.heap.size+1,1,none⟩=some (.slice vo vl vc)/\wx.cell? ⟨w.heap.size+1,2,none⟩=some (.slice eo el ec))/\(wx.cell? ⟨w.heap.size+1+1,0,none⟩=some (.bool false)/\wx.cell? ⟨w.heap.size+1+1,1,none⟩=some (.slice none 0 0)/\wx.cell? ⟨w.heap.size+1+1,2,none⟩=some (.slice none 0 0))/\∀ i,wx.frozen? ⟨w.heap.size+1+1,i,none⟩=false):=by
  intro wx hg;rw [hW] at hg;have a1:=aJ (aa (ag (ag (ae _ none) _) _) hg);have a2:=aJ (w:=w.alloc (Obj.cells #[.bool b1,.slice uo ul uc,.slice do_ dl dc] 91)) (aa (ag (ae _ none) _) hg);have a3:=aV hg;have e3:((w.alloc (Obj.cells #[.bool b1,.slice uo ul uc,.slice do_ dl dc] 91)).alloc (Obj.cells #[.bool b2,.slice vo vl vc,.slice eo el ec] 91)).heap.size=w.heap.size+1+1:=by simp
  rw [e3] at a3;refine ⟨a1,by simpa using a2,?_,?_⟩
  ·exact ⟨a3.1,a3.2.1,a3.2.2.1⟩
  ·exact a3.2.2.2
 obtain ⟨⟨s0,s1,s2⟩,⟨t0,t1,t2⟩,⟨r0,r1,r2⟩,rf⟩:=CELLS.out W (ae _ _);clear rf;have hne1:¬ w.heap.size+1+1=w.heap.size:=by omega
 have hne2:¬ w.heap.size=w.heap.size+1+1:=by omega
 have hne3:¬ w.heap.size+1+1=w.heap.size+1:=by omega
 go_enter Tryz.func81,Tryz.ntmps81
 go_wp2;rw [<- hW];clear hW;have GG:W.grownBy W none:=ae _ _;go_region_held3 (fun w'=>w'.cell? ⟨w.heap.size,0,none⟩=some (.bool b1)/\w'.cell? ⟨w.heap.size,1,none⟩=some (.slice uo ul uc)/\w'.cell? ⟨w.heap.size,2,none⟩=some (.slice do_ dl dc)/\w'.cell? ⟨w.heap.size+1,0,none⟩=some (.bool b2)/\w'.cell? ⟨w.heap.size+1,1,none⟩=some (.slice vo vl vc)/\w'.cell? ⟨w.heap.size+1,2,none⟩=some (.slice eo el ec)) (go_keep)
  (first | (go_at_call 109;refine (qOpp_at _ q L2 _ (HY.out.keep0 (aa GW.out (by first | exact aa GG (aj _) | exact aa GG ah | exact GG)))).mono ?_;rintro e wa ⟨va,rfl,pa,ga⟩;obtain ⟨ao,al,ac,bo,bl,bc,rfl⟩:=pa.shape;have GG:W.grownBy wa none:=aa (by first | exact aa GG (aj _) | exact aa GG ah | exact GG) ga;obtain ⟨⟨a0,a1,a2⟩,⟨a3,a4,a5⟩,⟨a6,a7,a8⟩,af⟩:=CELLS.out wa GG;have af0:=af 0;have af1:=af 1;have af2:=af 2;clear af) | (go_at_call 100;refine (mf _ _ p (-q) L1 L2 _ (HX.out.keep0 (aa GW.out (by first | exact aa GG (aj _) | exact aa GG ah | exact GG))) (pa.keep0 (by first | exact aj _ | exact ah | exact ae _ _)) (by omega)).mono ?_;rintro e wf ⟨v6,rfl,f1,f2⟩;obtain ⟨fo,fl,fc,fo2,fl2,fc2,rfl⟩:=f1.shape;have GG:W.grownBy wf none:=aa (by first | exact aa GG (aj _) | exact aa GG ah | exact GG) f2;obtain ⟨⟨g0,g1,g2⟩,⟨g3,g4,g5⟩,⟨g6,g7,g8⟩,gf⟩:=CELLS.out wf GG;have gf0:=gf 0;have gf1:=gf 1;have gf2:=gf 2;clear gf))
 all_goals
  have F1:=ab f1;have HGd:=ab GG;clear f1 f2;go_wp2;refine bodyPost_ret (v:=.agg #[.bool (rB (p + -q)),.slice fo fl fc,.slice fo2 fl2 fc2]) (by first | (simp [results,Tryz.results81,go_sem,g6,g7,g8];done) | (simp [results,Tryz.results81,go_sem,g6,g7,g8];rfl)) rfl ?_;rw [Rat.sub_eq_add_neg];exact ⟨_,rfl,FV.other F1.out (NW.out wf HGd.out) bF,ai (ai (ai (aa GW.out HGd.out) _ _ (by simp;omega)) _ _ (by simp;omega)) _ _ (by simp;omega)⟩
theorem fBar_at (x:Value) (neg:Bool) (n d L:Nat) (w:World) (hx:FV w x neg n d L) :
  Calls Tryz.prog 104 #[x] w fun e w'=>fW w false d 1 (L+1) e w':=by
 have HX:=ab hx;obtain ⟨uo,ul,uc,do_,dl,dc,rfl⟩:=hx.shape;clear hx;obtain ⟨W,hW⟩:∃ W,W=(w.alloc (Obj.cells #[.bool neg,.slice uo ul uc,.slice do_ dl dc] 91)).alloc (Obj.cells #[.bool false,.slice none 0 0,.slice none 0 0] 91):=⟨_,rfl⟩;have GW:Hid (w.grownBy W none):=by rw [hW];exact ag (ag (ae _ _) _) _
 have CELLS:Hid (∀ wx,W.grownBy wx none->(wx.cell? ⟨w.heap.size+1,0,none⟩=some (.bool false)/\wx.cell? ⟨w.heap.size+1,1,none⟩=some (.slice none 0 0)/\wx.cell? ⟨w.heap.size+1,2,none⟩=some (.slice none 0 0)/\∀ i,wx.frozen? ⟨w.heap.size+1,i,none⟩=false)):=by
  intro wx hg;rw [hW] at hg;have a3:=aV hg;have e3:(w.alloc (Obj.cells #[.bool neg,.slice uo ul uc,.slice do_ dl dc] 91)).heap.size=w.heap.size+1:=by simp
  rw [e3] at a3;exact a3
 have NW:Hid (∀ wx,W.grownBy wx none->bO wx (w.heap.size+1)):=by
  intro wx hg;rw [hW] at hg;have:=bu hg;simpa using this
 go_enter Tryz.func104,Tryz.ntmps104
 go_wp2_with fail;rw [<- hW];refine (gP _ neg n d L W (HX.out.keep0 GW.out)).mono ?_;rintro e w2 ⟨v,rfl,k1,k2⟩;obtain ⟨vo,vl,vc,rfl,_,_,_⟩:=k1.shape;obtain ⟨r0,r1,r2,rf⟩:=CELLS.out w2 k2;have rf0:=rf 0;have rf1:=rf 1;have rf2:=rf 2;have K1:=ab k1;have K2:=ab k2;clear rf k1 k2 hW;go_wp2;refine bodyPost_ret (v:=.agg #[.bool false,.slice vo vl vc,.slice none 0 0]) (by simp [results,Tryz.results104,go_sem,r0,r1,r2]) rfl ?_;refine ⟨_,rfl,?_,ai (ai (ai (aa GW.out K2.out) _ _ (by simp)) _ _ (by simp)) _ _ (by simp)⟩;have hF:FV w2 (.agg #[.bool false,.slice vo vl vc,.slice none 0 0]) false d 1 (L+1):=⟨_,_,rfl,K1.out,.inl ⟨rfl,rfl⟩,by simp,by simp⟩;exact hF.other (NW.out w2 K2.out) bF
def SizeE (w:World) (L:Nat) (e:Ending) (w':World):Prop:=∃ k:Nat,e=.returned (.int .i64 (k:Nat))/\k<=64*L+64/\w.grownBy w' none
theorem Bw (x:Value) (neg:Bool) (n d L:Nat) (w:World) (hx:FV w x neg n d L) (hl:L<=10000000000000) :
  Calls Tryz.prog 105 #[x] w fun e w'=>SizeE w L e w':=by
 obtain ⟨uo,ul,uc,do_,dl,dc,rfl⟩:=hx.shape;have NU:Hid (aU w (.slice uo ul uc) n L):=by
  obtain ⟨up,down,e,h1,_⟩:=hx;simp only [Value.agg.injEq,Array.mk.injEq,List.cons.injEq,and_true,true_and] at e;rw [e.1];exact h1
 have ND:Hid (∃ m,aU w (.slice do_ dl dc) m L):=by
  obtain ⟨up,down,e,h1,h2,_⟩:=hx;simp only [Value.agg.injEq,Array.mk.injEq,List.cons.injEq,and_true,true_and] at e;rw [e.2];rcases h2 with ⟨h2,_⟩ | ⟨h2,_⟩
  ·rw [h2];exact ⟨0,[],Ws.nil _,rfl,rfl,by simp⟩
  ·exact ⟨_,h2⟩
 obtain ⟨m,hm⟩:=ND.out;have NM:=ab hm;clear hx hm ND;obtain ⟨W,hW⟩:∃ W,W=w.alloc (Obj.cells #[.bool neg,.slice uo ul uc,.slice do_ dl dc] 91):=⟨_,rfl⟩;have GW:Hid (w.grownBy W none):=by rw [hW];exact ag (ae _ _) _
 have CELLS:Hid (∀ wx,W.grownBy wx none->wx.cell? ⟨w.heap.size,1,none⟩=some (.slice uo ul uc)/\wx.cell? ⟨w.heap.size,2,none⟩=some (.slice do_ dl dc)):=by
  intro wx hg;rw [hW] at hg;exact (aJ hg).2
 obtain ⟨s1,s2⟩:=CELLS.out W (ae _ _);go_enter Tryz.func105,Tryz.ntmps105
 go_wp2;rw [<- hW];clear hW;go_region_held3 (fun w'=>w'.cell? ⟨w.heap.size,1,none⟩=some (.slice uo ul uc)/\w'.cell? ⟨w.heap.size,2,none⟩=some (.slice do_ dl dc)) (go_keep)
  (first | (go_at_call_of 140 (Value.slice uo ul uc);refine (lO _ n L _ (NU.out.keep0 (aa GW.out (by first | exact aa Gb (aj _) | exact aa Gb (ar (ae _ _) 1) | exact Gb | exact aa Ga (aj _) | exact aa Ga (ar (ae _ _) 1) | exact Ga | exact aj _ | exact ar (ae _ _) 1 | exact ae _ _))) hl).mono ?_;rintro e wa ⟨k1,rfl,_,hk1,rfl⟩) | (go_at_call_of 140 (Value.slice do_ dl dc);refine (lO _ m L _ (NM.out.keep0 (aa GW.out (by first | exact aa Gb (aj _) | exact aa Gb (ar (ae _ _) 1) | exact Gb | exact aa Ga (aj _) | exact aa Ga (ar (ae _ _) 1) | exact Ga | exact aj _ | exact ar (ae _ _) 1 | exact ae _ _))) hl).mono ?_;rintro e wb ⟨k2,rfl,_,hk2,rfl⟩))
 all_goals
  go_wp2;go_ret;exact ⟨k1+k2,congrArg (fun z=>Ending.returned (Value.int .i64 z)) (by first | omega | (rw [IntWalk.i64_in _ ⟨by omega,by omega⟩];omega)),by omega,aa GW.out (by first | exact aa Gb (aj _) | exact aa Gb (ar (ae _ _) 1) | exact Gb | exact aa Ga (aj _) | exact aa Ga (ar (ae _ _) 1) | exact Ga | exact aj _ | exact ar (ae _ _) 1 | exact ae _ _)⟩
theorem uN (uo vo:Option Addr) (ul uc vl vc:Nat) (b1 b2:Bool) (n1 L1 n2 L2:Nat) (w:World) (hx:aU w (.slice uo ul uc) n1 L1) (hy:aU w (.slice vo vl vc) n2 L2) (hl:L1+L2<=4000000000000) :
  Calls Tryz.prog 102 #[.agg #[.bool b1,.slice uo ul uc,.slice none 0 0],.agg #[.bool b2,.slice vo vl vc,.slice none 0 0]] w fun e w'=>fW w (bn (b1 != b2) n1 n2).1 (bn (b1 != b2) n1 n2).2.1 (bn (b1 != b2) n1 n2).2.2 (L1+L2+2) e w':=by
 have NX:=ab hx;have NY:=ab hy;clear hx hy;obtain ⟨W,hW⟩:∃ W,W=((w.alloc (Obj.cells #[.bool b1,.slice uo ul uc,.slice none 0 0] 91)).alloc (Obj.cells #[.bool b2,.slice vo vl vc,.slice none 0 0] 91)).alloc (Obj.cells #[.bool false,.slice none 0 0,.slice none 0 0] 91):=⟨_,rfl⟩;have GW:Hid (w.grownBy W none):=by rw [hW];exact ag (ag (ag (ae _ _) _) _) _
 have NW:Hid (∀ wx,W.grownBy wx none->bO wx (w.heap.size+1+1)):=by
  intro wx hg;rw [hW] at hg;have:=bu hg;simpa using this
 have CELLS:Hid (∀ wx,W.grownBy wx none->(wx.cell? ⟨w.heap.size,0,none⟩=some (.bool b1)/\wx.cell? ⟨w.heap.size,1,none⟩=some (.slice uo ul uc)/\wx.cell? ⟨w.heap.size,2,none⟩=some (.slice none 0 0))/\(wx.cell? ⟨w.heap.size+1,0,none⟩=some (.bool b2)/\wx.cell? ⟨w.heap.size+1,1,none⟩=some (.slice vo vl vc)/\wx.cell? ⟨w.heap.size+1,2,none⟩=some (.slice none 0 0))/\(wx.cell? ⟨w.heap.size+1+1,0,none⟩=some (.bool false)/\wx.cell? ⟨w.heap.size+1+1,1,none⟩=some (.slice none 0 0)/\wx.cell? ⟨w.heap.size+1+1,2,none⟩=some (.slice none 0 0))/\∀ i,wx.frozen? ⟨w.heap.size+1+1,i,none⟩=false):=by
  intro wx hg;rw [hW] at hg;have a1:=aJ (aa (ag (ag (ae _ none) _) _) hg);have a2:=aJ (w:=w.alloc (Obj.cells #[.bool b1,.slice uo ul uc,.slice none 0 0] 91)) (aa (ag (ae _ none) _) hg);have a3:=aV hg;have e3:((w.alloc (Obj.cells #[.bool b1,.slice uo ul uc,.slice none 0 0] 91)).alloc (Obj.cells #[.bool b2,.slice vo vl vc,.slice none 0 0] 91)).heap.size=w.heap.size+1+1:=by simp
  rw [e3] at a3;refine ⟨a1,by simpa using a2,?_,?_⟩
  ·exact ⟨a3.1,a3.2.1,a3.2.2.1⟩
  ·exact a3.2.2.2
 obtain ⟨⟨s0,s1,s2⟩,⟨t0,t1,t2⟩,⟨r0,r1,r2⟩,rf⟩:=CELLS.out W (ae _ _);clear rf;have hne1:¬ w.heap.size+1+1=w.heap.size:=by omega
 have hne2:¬ w.heap.size=w.heap.size+1+1:=by omega
 have hne3:¬ w.heap.size+1+1=w.heap.size+1:=by omega
 go_enter Tryz.func102,Tryz.ntmps102
 go_wp2_with fail;rw [<- hW];clear hW;refine (cM _ _ _ _ _).mono ?_;rintro e w1 ⟨rfl,g1⟩;have G1:=ab g1;obtain ⟨⟨a0,a1,a2⟩,⟨a3,a4,a5⟩,_⟩:=CELLS.out w1 g1;clear g1;go_wp2_with fail;refine (cM _ _ _ _ _).mono ?_;rintro e w2 ⟨rfl,g2⟩;have G2:=ab (aa G1.out g2);obtain ⟨⟨c0,c1,c2⟩,⟨c3,c4,c5⟩,_⟩:=CELLS.out w2 G2.out;clear g2;go_wp2_with fail;refine (mR _ _ _ n1 n2 (L1+L2+2) _ ((NX.out.keep0 (aa GW.out G2.out)).mono (by omega)) ((NY.out.keep0 (aa GW.out G2.out)).mono (by omega)) (by omega)).mono ?_;rintro e w3 ⟨v3,rfl,p1,p2⟩;obtain ⟨fo,fl,fc,fo2,fl2,fc2,rfl⟩:=p1.shape;have P1:=ab p1;have G3:=ab (aa G2.out p2);obtain ⟨⟨k0,k1,k2⟩,⟨k3,k4,k5⟩,⟨g6,g7,g8⟩,kf⟩:=CELLS.out w3 G3.out;have kf0:=kf 0;have kf1:=kf 1;have kf2:=kf 2;clear kf p1 p2;go_wp2;refine bodyPost_ret (v:=.agg #[.bool (bn (b1 != b2) n1 n2).1,.slice fo fl fc,.slice fo2 fl2 fc2]) (by first | (simp [results,Tryz.results102,go_sem,g6,g7,g8];done) | (simp [results,Tryz.results102,go_sem,g6,g7,g8];rfl)) rfl ?_;exact ⟨_,rfl,P1.out.other (NW.out w3 G3.out) bF,ai (ai (ai (aa GW.out G3.out) _ _ (by simp;omega)) _ _ (by simp;omega)) _ _ (by simp;omega)⟩
theorem pF (uo vo do_ eo:Option Addr) (ul uc vl vc dl dc el ec:Nat) (b1 b2:Bool) (n1 d1 L1 n2 d2 L2:Nat) (w:World) (hx:FV w (.agg #[.bool b1,.slice uo ul uc,.slice do_ dl dc]) b1 n1 d1 L1) (hy:FV w (.agg #[.bool b2,.slice vo vl vc,.slice eo el ec]) b2 n2 d2 L2) (hn:0<n2) (hl:L1+L2<=4000000000000)
  (hwh:∀ wx:World,(Calls Tryz.prog 133 #[.agg #[.bool b1,.slice uo ul uc,.slice do_ dl dc]] wx fun e w'=>e=.returned (.bool false)/\wx.grownBy w' none)∨((Calls Tryz.prog 133 #[.agg #[.bool b1,.slice uo ul uc,.slice do_ dl dc]] wx fun e w'=>e=.returned (.bool true)/\wx.grownBy w' none)/\∀ wx:World,Calls Tryz.prog 133 #[.agg #[.bool b2,.slice vo vl vc,.slice eo el ec]] wx fun e w'=>e=.returned (.bool false)/\wx.grownBy w' none)) :
  Calls Tryz.prog 102 #[.agg #[.bool b1,.slice uo ul uc,.slice do_ dl dc],.agg #[.bool b2,.slice vo vl vc,.slice eo el ec]] w fun e w'=>fW w (bn (b1 != b2) (n1*d2) (d1*n2)).1 (bn (b1 != b2) (n1*d2) (d1*n2)).2.1 (bn (b1 != b2) (n1*d2) (d1*n2)).2.2 (L1+L2+2) e w':=by
 have HX:=ab hx;have HY:=ab hy;have hd2:=hy.down_le.1;have hc2:=hy.cop;have NY:Hid (aU w (.slice vo vl vc) n2 L2):=by
  obtain ⟨up,down,e,h1,_⟩:=hy;simp only [Value.agg.injEq,Array.mk.injEq,List.cons.injEq,and_true,true_and] at e;rw [e.1];exact h1
 clear hx hy;have HLQ:Hid (bn b2 d2 n2=(b2,d2,n2)):=by show _=_;exact nI b2 d2 n2 hd2 hn (by rw [Nat.gcd_comm];exact hc2)
 have HCOP:Hid (d2=0∨Nat.gcd d2 n2=1):=.inr (by rw [Nat.gcd_comm];exact hc2);have hzz:decide (n2=0)=false:=decide_eq_false (by omega);have HZZ:=ab hzz;clear hc2 hzz;obtain ⟨W,hW⟩:∃ W,W=((w.alloc (Obj.cells #[.bool b1,.slice uo ul uc,.slice do_ dl dc] 91)).alloc (Obj.cells #[.bool b2,.slice vo vl vc,.slice eo el ec] 91)).alloc (Obj.cells #[.bool false,.slice none 0 0,.slice none 0 0] 91):=⟨_,rfl⟩;have GW:Hid (w.grownBy W none):=by rw [hW];exact ag (ag (ag (ae _ _) _) _) _
 have NW:Hid (∀ wx,W.grownBy wx none->bO wx (w.heap.size+1+1)):=by
  intro wx hg;rw [hW] at hg;have:=bu hg;simpa using this
 have CELLS:Hid (∀ wx,W.grownBy wx none->(wx.cell? ⟨w.heap.size,0,none⟩=some (.bool b1)/\wx.cell? ⟨w.heap.size,1,none⟩=some (.slice uo ul uc)/\wx.cell? ⟨w.heap.size,2,none⟩=some (.slice do_ dl dc))/\(wx.cell? ⟨w.heap.size+1,0,none⟩=some (.bool b2)/\wx.cell? ⟨w.heap.size+1,1,none⟩=some (.slice vo vl vc)/\wx.cell? ⟨w.heap.size+1,2,none⟩=some (.slice eo el ec))/\(wx.cell? ⟨w.heap.size+1+1,0,none⟩=some (.bool false)/\wx.cell? ⟨w.heap.size+1+1,1,none⟩=some (.slice none 0 0)/\wx.cell? ⟨w.heap.size+1+1,2,none⟩=some (.slice none 0 0))/\∀ i,wx.frozen? ⟨w.heap.size+1+1,i,none⟩=false):=by
  intro wx hg;rw [hW] at hg;have a1:=aJ (aa (ag (ag (ae _ none) _) _) hg);have a2:=aJ (w:=w.alloc (Obj.cells #[.bool b1,.slice uo ul uc,.slice do_ dl dc] 91)) (aa (ag (ae _ none) _) hg);have a3:=aV hg;have e3:((w.alloc (Obj.cells #[.bool b1,.slice uo ul uc,.slice do_ dl dc] 91)).alloc (Obj.cells #[.bool b2,.slice vo vl vc,.slice eo el ec] 91)).heap.size=w.heap.size+1+1:=by simp
  rw [e3] at a3;refine ⟨a1,by simpa using a2,?_,?_⟩
  ·exact ⟨a3.1,a3.2.1,a3.2.2.1⟩
  ·exact a3.2.2.2
 obtain ⟨⟨s0,s1,s2⟩,⟨t0,t1,t2⟩,⟨r0,r1,r2⟩,rf⟩:=CELLS.out W (ae _ _);clear rf;have hne1:¬ w.heap.size+1+1=w.heap.size:=by omega
 have hne2:¬ w.heap.size=w.heap.size+1+1:=by omega
 have hne3:¬ w.heap.size+1+1=w.heap.size+1:=by omega
 have HWH:=ab hwh;clear hwh;go_enter Tryz.func102,Tryz.ntmps102
 go_upto_region 1 with fail;rw [<- hW];clear hW;go_cut [10] (fun s10 wx=>Hid (s10=.bool false/\W.grownBy wx none))
 case first =>
  go_wp2_with fail;rcases HWH.out W with h | ⟨h,h2⟩
  ·refine h.mono ?_;rintro e w1 ⟨rfl,g1⟩;go_wp2_with fail;go_meet
   exact ⟨rfl,g1⟩
  ·refine h.mono ?_;rintro e w1 ⟨rfl,g1⟩;obtain ⟨⟨a0,a1,a2⟩,⟨a3,a4,a5⟩,_⟩:=CELLS.out w1 g1;go_wp2_with fail;refine (h2 _).mono ?_;rintro e w2 ⟨rfl,g2⟩;go_wp2_with fail;go_meet
   exact ⟨rfl,aa g1 g2⟩
 case rest =>
  obtain ⟨rfl,GG⟩:=hcut.out;clear hcut s0 s1 s2 t0 t1 t2 r0 r1 r2;obtain ⟨⟨s0,s1,s2⟩,⟨s3,s4,s5⟩,_⟩:=CELLS.out wc GG;go_wp2_with fail;refine (mO _ b2 n2 d2 L2 _ (HY.out.keep0 (aa GW.out GG))).mono ?_;rintro e w1 ⟨rfl,g1⟩;rw [HZZ.out];have GG':W.grownBy w1 none:=aa GG g1;clear GG s0 s1 s2 s3 s4 s5 g1;have GG:=GG';clear GG';obtain ⟨⟨s0,s1,s2⟩,⟨s3,s4,s5⟩,_⟩:=CELLS.out w1 GG;go_wp2;go_region_held3 (fun w'=>w'.cell? ⟨w.heap.size,0,none⟩=some (.bool b1)/\w'.cell? ⟨w.heap.size,1,none⟩=some (.slice uo ul uc)/\w'.cell? ⟨w.heap.size,2,none⟩=some (.slice do_ dl dc)/\w'.cell? ⟨w.heap.size+1,0,none⟩=some (.bool b2)/\w'.cell? ⟨w.heap.size+1,1,none⟩=some (.slice vo vl vc)/\w'.cell? ⟨w.heap.size+1,2,none⟩=some (.slice eo el ec)) (go_keep)
   (first | (go_at_call_of 136 (Value.agg #[.bool b2,.slice vo vl vc,.slice eo el ec]);refine (gP _ _ _ _ L2 _ (HY.out.keep0 (aa GW.out (by first | exact aa GG (aj _) | exact aa GG ah | exact GG)))).mono ?_;rintro e wa ⟨va,rfl,pa,ga⟩;obtain ⟨ao,al,ac,rfl,_,_,_⟩:=pa.shape;have KP:=aa (by first | exact aj _ | exact ah | exact ae _ _) ga;have GG:W.grownBy wa none:=aa (by first | exact aa GG (aj _) | exact aa GG ah | exact GG) ga;(try have px:=px.keep0 KP);clear KP;obtain ⟨⟨ca0,ca1,ca2⟩,⟨ca3,ca4,ca5⟩,⟨ca6,ca7,ca8⟩,caf⟩:=CELLS.out wa GG;have caf0:=caf 0;have caf1:=caf 1;have caf2:=caf 2;clear caf) | (go_at_call 139;refine (kx _ _ _ d2 n2 (L2+1) _ (pa.keep0 (by first | exact aj _ | exact ah | exact ae _ _)) ((NY.out.keep0 (aa GW.out (by first | exact aa GG (aj _) | exact aa GG ah | exact GG))).mono (by omega)) hn HCOP.out).mono ?_;rintro e wx ⟨vx,rfl,px,gx⟩;rw [HLQ.out] at px;obtain ⟨xo,xl,xc,yo,yl,yc,rfl⟩:=px.shape;have GG:W.grownBy wx none:=aa (by first | exact aa GG (aj _) | exact aa GG ah | exact GG) gx;obtain ⟨⟨cx0,cx1,cx2⟩,⟨cx3,cx4,cx5⟩,⟨cx6,cx7,cx8⟩,cxf⟩:=CELLS.out wx GG;have cxf0:=cxf 0;have cxf1:=cxf 1;have cxf2:=cxf 2;clear cxf) | (go_at_call 101;refine (q9 _ _ b1 b2 n1 d1 L1 d2 n2 (L2+1) _ (HX.out.keep0 (aa GW.out (by first | exact aa GG (aj _) | exact aa GG ah | exact GG))) (px.keep0 (by first | exact aj _ | exact ah | exact ae _ _)) (by omega)).mono ?_;rintro e wf ⟨v6,rfl,f1,f2⟩;obtain ⟨fo,fl,fc,fo2,fl2,fc2,rfl⟩:=f1.shape;have GG:W.grownBy wf none:=aa (by first | exact aa GG (aj _) | exact aa GG ah | exact GG) f2;obtain ⟨⟨g0,g1,g2⟩,⟨g3,g4,g5⟩,⟨g6,g7,g8⟩,gf⟩:=CELLS.out wf GG;have gf0:=gf 0;have gf1:=gf 1;have gf2:=gf 2;clear gf))
  all_goals
   have F1:=ab f1;have HGd:=ab GG;clear f1 f2;go_wp2;refine bodyPost_ret (v:=.agg #[.bool (bn (b1 != b2) (n1*d2) (d1*n2)).1,.slice fo fl fc,.slice fo2 fl2 fc2]) (by first | (simp [results,Tryz.results102,go_sem,g6,g7,g8];done) | (simp [results,Tryz.results102,go_sem,g6,g7,g8];rfl)) rfl ?_;exact ⟨_,rfl,F1.out.other (NW.out wf HGd.out) bF,ai (ai (ai (aa GW.out HGd.out) _ _ (by simp;omega)) _ _ (by simp;omega)) _ _ (by simp;omega)⟩
theorem pE (x y:Value) (p q:Rat) (L1 L2:Nat) (w:World) (hx:FQ w x p L1) (hy:FQ w y q L2) (hq:q≠0) (hl:L1+L2<=4000000000000) :
  Calls Tryz.prog 102 #[x,y] w fun e w'=>AN w (p / q) (L1+L2+2) e w':=by
 have HX:=hx;have HY:=hy;have hn:0<rN q:=by have:=q_ne hq;omega
 have hmk:mkRat (fO (rB p != rB q) (rN p*q.den)) (p.den*rN q)=p / q:=by rw [Nat.mul_comm p.den];exact q_div p q
 obtain ⟨up,down,rfl,h1,h2,h3,h4⟩:=hx;obtain ⟨up2,down2,rfl,k1,k2,k3,k4⟩:=hy;obtain ⟨uo,ul,uc,rfl,_⟩:=h1.shape;obtain ⟨vo,vl,vc,rfl,_⟩:=k1.shape;rcases h2 with ⟨rfl,hd⟩ | ⟨h2,hd⟩
 ·rcases k2 with ⟨rfl,kd⟩ | ⟨k2,kd⟩
  ·refine (uN uo vo ul uc vl vc _ _ _ L1 _ L2 w h1 k1 hl).mono ?_;intro e w' h;rw [hd,kd,Nat.mul_one,Nat.one_mul] at hmk;exact fW.q hmk h
  ·obtain ⟨eo,el,ec,rfl,e1,e2,e3⟩:=k2.shape;have hel:0<el:=by
    rcases Nat.eq_zero_or_pos el with h | h
    ·have:=e1.1 h;omega
    ·exact h
   refine (pF uo vo none eo ul uc vl vc 0 0 el ec _ _ _ _ L1 _ _ L2 w HX HY hn hl (fun wx=>.inr ⟨cM _ _ _ _ wx,fun wy=>fB _ _ _ _ _ _ _ wy hel e2 e3⟩)).mono ?_;intro e w' h;exact fW.q hmk h
 ·obtain ⟨do_,dl,dc,rfl,e1,e2,e3⟩:=h2.shape;have hdl:0<dl:=by
   rcases Nat.eq_zero_or_pos dl with h | h
   ·have:=e1.1 h;omega
   ·exact h
  obtain ⟨vo2,vl2,vc2,eo,el,ec,e⟩:=HY.shape;simp only [Value.agg.injEq,Array.mk.injEq,List.cons.injEq,and_true,true_and] at e;obtain ⟨_,rfl⟩:=e;refine (pF uo vo do_ eo ul uc vl vc dl dc el ec _ _ _ _ L1 _ _ L2 w HX HY hn hl (fun wx=>.inl (fB _ _ _ _ _ _ _ wx hdl e2 e3))).mono ?_;intro e w' h;exact fW.q hmk h
theorem qBar_at (x:Value) (q:Rat) (L:Nat) (w:World) (hx:FQ w x q L) :
  Calls Tryz.prog 104 #[x] w fun e w'=>AN w ((q.den:Nat):Rat) (L+1) e w':=by
 refine (fBar_at x _ _ _ L w hx).mono ?_;rintro e w' ⟨v,rfl,k1,k2⟩;refine ⟨v,rfl,?_,k2⟩;have e1:rB ((q.den:Nat):Rat)=false:=by unfold rB;rw [Rat.num_natCast];exact decide_eq_false (by omega)
 have e2:rN ((q.den:Nat):Rat)=q.den:=by unfold rN;rw [Rat.num_natCast];exact Int.natAbs_natCast _
 have e3:((q.den:Nat):Rat).den=1:=Rat.den_natCast _;unfold FQ;rw [e1,e2,e3];exact k1
end Go.Proofs.YthblidglcppakaaGreatDoor
