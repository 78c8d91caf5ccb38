/- Contracts that the proof leans on. -/
import Derived.Test.YthblidglcppakaaGreatDoorXMFc
import Derived.Deep.DeepCutAuto
import Derived.Test.YthblidglcppakaaGreatDoorXMBase
import Derived.Test.YthblidglcppakaaGreatDoorXShelf
import Derived.Lib.ItoaMem
import Derived.Lib.ItoaNum
import Derived.Lib.Walk
import Derived.Shelf.Strings.Builder2
import Derived.Test.YthblidglcppakaaGreatDoorXMFb
import Derived.Test.YthblidglcppakaaGreatDoorXCFc
import Derived.Lib.IndexLaws
set_option linter.unusedVariables false
set_option linter.unusedSimpArgs false
set_option maxHeartbeats 8000000
set_option maxRecDepth 10000
namespace Go.Proofs.YthblidglcppakaaGreatDoor
open Go.RowKit
theorem ah {w:World} : w.grownBy w.drew none:=ar (ae _ _) 1
theorem aU.lt {w:World} {v:Value} {n L:Nat} (h:aU w v n L):n<4294967296^L:=by
 obtain ⟨xs,h1,h2,h3,h4⟩:=h;rw [<- h3];exact Nat.lt_of_lt_of_le (bD h1.sm) (Nat.pow_le_pow_right (by decide) h4)
theorem FV.down_le {w:World} {v:Value} {b:Bool} {n d L:Nat} (h:FV w v b n d L):0<d/\d<=4294967296^L:=by
 obtain ⟨up,down,_,_,h2,_,_⟩:=h;rcases h2 with ⟨_,rfl⟩ | ⟨h2,h3⟩
 ·exact ⟨by decide,Nat.pow_pos (by decide)⟩
 ·exact ⟨by omega,Nat.le_of_lt h2.lt⟩
theorem FV.cop {w:World} {v:Value} {b:Bool} {n d L:Nat} (h:FV w v b n d L):Nat.gcd n d=1:=by
 obtain ⟨up,down,_,_,_,h,_⟩:=h;exact h
theorem mV {n L:Nat} (h:n<=4294967296^L):n<4294967296^(L+1):=by
 have:=(Nat.pow_lt_pow_iff_right (a:=4294967296) (by decide)).2 (Nat.lt_succ_self L);exact Nat.lt_of_le_of_lt h this
theorem sj (uo vo:Option Addr) (ul uc vl vc:Nat) (b1 b2:Bool) (n1 L1 n2 L2:Nat) (w:World) (hx:aU w (.slice uo ul uc) n1 L1) (hy:aU w (.slice vo vl vc) n2 L2) (hl:L1+L2<=7000000000000) :
  Calls Tryz.prog 101 #[.agg #[.bool b1,.slice uo ul uc,.slice none 0 0],.agg #[.bool b2,.slice vo vl vc,.slice none 0 0]] w fun e w'=>fW w (bn (b1 != b2) (n1*n2) 1).1 (bn (b1 != b2) (n1*n2) 1).2.1 (bn (b1 != b2) (n1*n2) 1).2.2 (L1+L2+1) e w':=by
 have NX:=ab hx;have NY:=ab hy;clear hx hy;obtain ⟨W,hW⟩:∃ W,W=((w.alloc (Obj.cells #[.bool b1,.slice uo ul uc,.slice none 0 0] 91)).alloc (Obj.cells #[.bool b2,.slice vo vl vc,.slice none 0 0] 91)).alloc (Obj.cells #[.bool false,.slice none 0 0,.slice none 0 0] 91):=⟨_,rfl⟩;have GW:Hid (w.grownBy W none):=by rw [hW];exact ag (ag (ag (ae _ _) _) _) _
 have NW:Hid (∀ wx,W.grownBy wx none->bO wx (w.heap.size+1+1)):=by
  intro wx hg;rw [hW] at hg;have:=bu hg;simpa using this
 have CELLS:Hid (∀ wx,W.grownBy wx none->(wx.cell? ⟨w.heap.size,0,none⟩=some (.bool b1)/\wx.cell? ⟨w.heap.size,1,none⟩=some (.slice uo ul uc)/\wx.cell? ⟨w.heap.size,2,none⟩=some (.slice none 0 0))/\(wx.cell? ⟨w.heap.size+1,0,none⟩=some (.bool b2)/\wx.cell? ⟨w.heap.size+1,1,none⟩=some (.slice vo vl vc)/\wx.cell? ⟨w.heap.size+1,2,none⟩=some (.slice none 0 0))/\(wx.cell? ⟨w.heap.size+1+1,0,none⟩=some (.bool false)/\wx.cell? ⟨w.heap.size+1+1,1,none⟩=some (.slice none 0 0)/\wx.cell? ⟨w.heap.size+1+1,2,none⟩=some (.slice none 0 0))/\∀ i,wx.frozen? ⟨w.heap.size+1+1,i,none⟩=false):=by
  intro wx hg;rw [hW] at hg;have a1:=aJ (aa (ag (ag (ae _ none) _) _) hg);have a2:=aJ (w:=w.alloc (Obj.cells #[.bool b1,.slice uo ul uc,.slice none 0 0] 91)) (aa (ag (ae _ none) _) hg);have a3:=aV hg;have e3:((w.alloc (Obj.cells #[.bool b1,.slice uo ul uc,.slice none 0 0] 91)).alloc (Obj.cells #[.bool b2,.slice vo vl vc,.slice none 0 0] 91)).heap.size=w.heap.size+1+1:=by simp
  rw [e3] at a3;refine ⟨a1,by simpa using a2,?_,?_⟩
  ·exact ⟨a3.1,a3.2.1,a3.2.2.1⟩
  ·exact a3.2.2.2
 obtain ⟨⟨s0,s1,s2⟩,⟨t0,t1,t2⟩,⟨r0,r1,r2⟩,rf⟩:=CELLS.out W (ae _ _);clear rf;have hne1:¬ w.heap.size+1+1=w.heap.size:=by omega
 have hne2:¬ w.heap.size=w.heap.size+1+1:=by omega
 have hne3:¬ w.heap.size+1+1=w.heap.size+1:=by omega
 go_enter Tryz.func101,Tryz.ntmps101
 go_wp2_with fail;rw [<- hW];clear hW;refine (cM _ _ _ _ _).mono ?_;rintro e w1 ⟨rfl,g1⟩;have G1:=ab g1;obtain ⟨⟨a0,a1,a2⟩,⟨a3,a4,a5⟩,_⟩:=CELLS.out w1 g1;clear g1;go_wp2_with fail;refine (cM _ _ _ _ _).mono ?_;rintro e w2 ⟨rfl,g2⟩;have G2:=ab (aa G1.out g2);obtain ⟨⟨c0,c1,c2⟩,⟨c3,c4,c5⟩,_⟩:=CELLS.out w2 G2.out;clear g2;go_wp2_with fail;refine (gJ _ _ n1 n2 L1 L2 _ (NX.out.keep0 (aa GW.out G2.out)) (NY.out.keep0 (aa GW.out G2.out)) (by omega)).mono ?_;rintro e w3 ⟨v3,rfl,p1,p2,p3⟩;obtain ⟨xo,xl,xc,rfl,_,_,_⟩:=p1.shape;have P1:=ab p1;have G3:=ab (aa G2.out p2);clear p1 p2 p3;go_wp2_with fail;have ga:w3.grownBy (w3.alloc (Obj.cells #[Value.int IntKind.u32 1] 140)) none:=ag (ae _ _) _;have GA:=ab (aa G3.out ga);have P2:=ab (P1.out.keep0 ga);clear ga;refine (kx _ _ _ (n1*n2) 1 (L1+L2+1) _ (P2.out.mono (by omega)) ((yg w3).mono (by omega)) (by decide) (.inr (Nat.gcd_one_right _))).mono ?_;rintro e wf ⟨v6,rfl,f1,f2⟩;obtain ⟨fo,fl,fc,fo2,fl2,fc2,rfl⟩:=f1.shape;have F1:=ab f1;have GF:=ab (aa GA.out f2);clear f1 f2;obtain ⟨⟨g0,g1,g2⟩,⟨g3,g4,g5⟩,⟨g6,g7,g8⟩,gf⟩:=CELLS.out wf GF.out;have gf0:=gf 0;have gf1:=gf 1;have gf2:=gf 2;clear gf;go_wp2;refine bodyPost_ret (v:=.agg #[.bool (bn (b1 != b2) (n1*n2) 1).1,.slice fo fl fc,.slice fo2 fl2 fc2]) (by first | (simp [results,Tryz.results101,go_sem,g6,g7,g8];done) | (simp [results,Tryz.results101,go_sem,g6,g7,g8];rfl)) rfl ?_;exact ⟨_,rfl,F1.out.other (NW.out wf GF.out) bF,ai (ai (ai (aa GW.out GF.out) _ _ (by simp;omega)) _ _ (by simp;omega)) _ _ (by simp;omega)⟩
theorem nG (uo vo do_ eo:Option Addr) (ul uc vl vc dl dc el ec:Nat) (b1 b2:Bool) (n1 d1 L1 n2 d2 L2:Nat) (w:World) (hx:FV w (.agg #[.bool b1,.slice uo ul uc,.slice do_ dl dc]) b1 n1 d1 L1) (hy:FV w (.agg #[.bool b2,.slice vo vl vc,.slice eo el ec]) b2 n2 d2 L2) (hl:L1+L2<=7000000000000)
  (hwh:∀ wx:World,(Calls Tryz.prog 133 #[.agg #[.bool b1,.slice uo ul uc,.slice do_ dl dc]] wx fun e w'=>e=.returned (.bool false)/\wx.grownBy w' none)∨((Calls Tryz.prog 133 #[.agg #[.bool b1,.slice uo ul uc,.slice do_ dl dc]] wx fun e w'=>e=.returned (.bool true)/\wx.grownBy w' none)/\∀ wx:World,Calls Tryz.prog 133 #[.agg #[.bool b2,.slice vo vl vc,.slice eo el ec]] wx fun e w'=>e=.returned (.bool false)/\wx.grownBy w' none)) :
  Calls Tryz.prog 101 #[.agg #[.bool b1,.slice uo ul uc,.slice do_ dl dc],.agg #[.bool b2,.slice vo vl vc,.slice eo el ec]] w fun e w'=>fW w (bn (b1 != b2) (n1*n2) (d1*d2)).1 (bn (b1 != b2) (n1*n2) (d1*d2)).2.1 (bn (b1 != b2) (n1*n2) (d1*d2)).2.2 (L1+L2+1) e w':=by
 have HX:=ab hx;have HY:=ab hy;obtain ⟨hd1,hd1L⟩:=hx.down_le;obtain ⟨hd2,hd2L⟩:=hy.down_le;have hc1:=hx.cop;have hc2:=hy.cop;have NX:Hid (aU w (.slice uo ul uc) n1 L1):=by
  obtain ⟨up,down,e,h1,_⟩:=hx;simp only [Value.agg.injEq,Array.mk.injEq,List.cons.injEq,and_true,true_and] at e;rw [e.1];exact h1
 have NY:Hid (aU w (.slice vo vl vc) n2 L2):=by
  obtain ⟨up,down,e,h1,_⟩:=hy;simp only [Value.agg.injEq,Array.mk.injEq,List.cons.injEq,and_true,true_and] at e;rw [e.1];exact h1
 clear hx hy;obtain ⟨G1,hG1⟩:∃ G,G=Nat.gcd n1 d2:=⟨_,rfl⟩;obtain ⟨G2,hG2⟩:∃ G,G=Nat.gcd n2 d1:=⟨_,rfl⟩;have hg1:0<G1:=by rw [hG1];exact Nat.gcd_pos_of_pos_right _ hd2
 have hg2:0<G2:=by rw [hG2];exact Nat.gcd_pos_of_pos_right _ hd1
 obtain ⟨X1,eX1⟩:∃ X,X=n1 / G1:=⟨_,rfl⟩;obtain ⟨X2,eX2⟩:∃ X,X=n2 / G2:=⟨_,rfl⟩;obtain ⟨Y1,eY1⟩:∃ X,X=d1 / G2:=⟨_,rfl⟩;obtain ⟨Y2,eY2⟩:∃ X,X=d2 / G1:=⟨_,rfl⟩;have hX1:X1<4294967296^L1:=by rw [eX1];exact Nat.lt_of_le_of_lt (Nat.div_le_self _ _) NX.out.lt
 have hX2:X2<4294967296^L2:=by rw [eX2];exact Nat.lt_of_le_of_lt (Nat.div_le_self _ _) NY.out.lt
 have hY1:Y1<4294967296^(L1+1):=by rw [eY1];exact mV (Nat.le_trans (Nat.div_le_self _ _) hd1L)
 have hY2:Y2<4294967296^(L2+1):=by rw [eY2];exact mV (Nat.le_trans (Nat.div_le_self _ _) hd2L)
 have hYY:Y1*Y2<4294967296^(L1+L2+1):=by
  refine mV ?_;rw [Nat.pow_add,eY1,eY2];exact Nat.mul_le_mul (Nat.le_trans (Nat.div_le_self _ _) hd1L) (Nat.le_trans (Nat.div_le_self _ _) hd2L)
 have hY0:0<Y1*Y2:=by
  rw [eY1,eY2,hG1,hG2];exact Nat.mul_pos (Nat.div_pos (Nat.gcd_le_right _ hd1) (Nat.gcd_pos_of_pos_right _ hd1)) (Nat.div_pos (Nat.gcd_le_right _ hd2) (Nat.gcd_pos_of_pos_right _ hd2))
 have HCOP:Hid (X1*X2=0∨Nat.gcd (X1*X2) (Y1*Y2)=1):=.inr (by rw [eX1,eX2,eY1,eY2,hG1,hG2];exact zj hc1 hc2 hd1 hd2);have HQ:Hid (bn (b1 != b2) (X1*X2) (Y1*Y2)=bn (b1 != b2) (n1*n2) (d1*d2)):=by show _=_;rw [eX1,eX2,eY1,eY2,hG1,hG2];exact zk _ hd1 hd2
 have EX1:=ab eX1;have EX2:=ab eX2;have EY1:=ab eY1;have EY2:=ab eY2;have EG1:=ab hG1;have EG2:=ab hG2;rw [<- HQ.out];clear HQ eX1 eX2 eY1 eY2 hG1 hG2 hc1 hc2 hd1L hd2L;obtain ⟨W,hW⟩:∃ W,W=((w.alloc (Obj.cells #[.bool b1,.slice uo ul uc,.slice do_ dl dc] 91)).alloc (Obj.cells #[.bool b2,.slice vo vl vc,.slice eo el ec] 91)).alloc (Obj.cells #[.bool false,.slice none 0 0,.slice none 0 0] 91):=⟨_,rfl⟩;have GW:Hid (w.grownBy W none):=by rw [hW];exact ag (ag (ag (ae _ _) _) _) _
 have NW:Hid (∀ wx,W.grownBy wx none->bO wx (w.heap.size+1+1)):=by
  intro wx hg;rw [hW] at hg;have:=bu hg;simpa using this
 have CELLS:Hid (∀ wx,W.grownBy wx none->(wx.cell? ⟨w.heap.size,0,none⟩=some (.bool b1)/\wx.cell? ⟨w.heap.size,1,none⟩=some (.slice uo ul uc)/\wx.cell? ⟨w.heap.size,2,none⟩=some (.slice do_ dl dc))/\(wx.cell? ⟨w.heap.size+1,0,none⟩=some (.bool b2)/\wx.cell? ⟨w.heap.size+1,1,none⟩=some (.slice vo vl vc)/\wx.cell? ⟨w.heap.size+1,2,none⟩=some (.slice eo el ec))/\(wx.cell? ⟨w.heap.size+1+1,0,none⟩=some (.bool false)/\wx.cell? ⟨w.heap.size+1+1,1,none⟩=some (.slice none 0 0)/\wx.cell? ⟨w.heap.size+1+1,2,none⟩=some (.slice none 0 0))/\∀ i,wx.frozen? ⟨w.heap.size+1+1,i,none⟩=false):=by
  intro wx hg;rw [hW] at hg;have a1:=aJ (aa (ag (ag (ae _ none) _) _) hg);have a2:=aJ (w:=w.alloc (Obj.cells #[.bool b1,.slice uo ul uc,.slice do_ dl dc] 91)) (aa (ag (ae _ none) _) hg);have a3:=aV hg;have e3:((w.alloc (Obj.cells #[.bool b1,.slice uo ul uc,.slice do_ dl dc] 91)).alloc (Obj.cells #[.bool b2,.slice vo vl vc,.slice eo el ec] 91)).heap.size=w.heap.size+1+1:=by simp
  rw [e3] at a3;refine ⟨a1,by simpa using a2,?_,?_⟩
  ·exact ⟨a3.1,a3.2.1,a3.2.2.1⟩
  ·exact a3.2.2.2
 obtain ⟨⟨s0,s1,s2⟩,⟨t0,t1,t2⟩,⟨r0,r1,r2⟩,rf⟩:=CELLS.out W (ae _ _);clear rf;have hne1:¬ w.heap.size+1+1=w.heap.size:=by omega
 have hne2:¬ w.heap.size=w.heap.size+1+1:=by omega
 have hne3:¬ w.heap.size+1+1=w.heap.size+1:=by omega
 have HWH:=ab hwh;clear hwh;go_enter Tryz.func101,Tryz.ntmps101
 go_upto_region 2 with fail;rw [<- hW];clear hW;go_cut [19] (fun s19 wx=>Hid (s19=.bool false/\W.grownBy wx none))
 case first =>
  go_wp2_with fail;rcases HWH.out W with h | ⟨h,h2⟩
  ·refine h.mono ?_;rintro e w1 ⟨rfl,g1⟩;go_wp2_with fail;go_meet
   exact ⟨rfl,g1⟩
  ·refine h.mono ?_;rintro e w1 ⟨rfl,g1⟩;obtain ⟨⟨a0,a1,a2⟩,⟨a3,a4,a5⟩,_⟩:=CELLS.out w1 g1;go_wp2_with fail;refine (h2 _).mono ?_;rintro e w2 ⟨rfl,g2⟩;go_wp2_with fail;go_meet
   exact ⟨rfl,aa g1 g2⟩
 case rest =>
  obtain ⟨rfl,GG⟩:=hcut.out;clear hcut s0 s1 s2 t0 t1 t2 r0 r1 r2;obtain ⟨⟨s0,s1,s2⟩,⟨s3,s4,s5⟩,_⟩:=CELLS.out wc GG;go_wp2;go_cut [6,7] (fun s6 s7 wx=>Hid (W.grownBy wx none/\(∃ o l c,s6=.slice o l c)/\(∃ o l c,s7=.slice o l c)/\aU wx s6 G1 (L1+L2+1)/\aU wx s7 G2 (L1+L2+1)))
  case first =>
   go_region_held3 (fun w'=>w'.cell? ⟨w.heap.size,0,none⟩=some (.bool b1)/\w'.cell? ⟨w.heap.size,1,none⟩=some (.slice uo ul uc)/\w'.cell? ⟨w.heap.size,2,none⟩=some (.slice do_ dl dc)/\w'.cell? ⟨w.heap.size+1,0,none⟩=some (.bool b2)/\w'.cell? ⟨w.heap.size+1,1,none⟩=some (.slice vo vl vc)/\w'.cell? ⟨w.heap.size+1,2,none⟩=some (.slice eo el ec)) (go_keep)
    (first | (go_at_call_of 136 (Value.agg #[.bool b2,.slice vo vl vc,.slice eo el ec]);refine (gP _ b2 n2 d2 L2 _ (HY.out.keep0 (aa GW.out (by first | exact aa GG (aj _) | exact aa GG ah | exact GG)))).mono ?_;rintro e wa ⟨va,rfl,pa,ga⟩;obtain ⟨pao,pal,pac,rfl,_,_,_⟩:=pa.shape;have KP:=aa (by first | exact aj _ | exact ah | exact ae _ _) ga;have GG:W.grownBy wa none:=aa (by first | exact aa GG (aj _) | exact aa GG ah | exact GG) ga;(try have pb:=pb.keep0 KP);(try have pc:=pc.keep0 KP);(try have pd:=pd.keep0 KP);clear KP;obtain ⟨⟨ca0,ca1,ca2⟩,⟨ca3,ca4,ca5⟩,⟨ca6,ca7,ca8⟩,caf⟩:=CELLS.out wa GG;have caf0:=caf 0;have caf1:=caf 1;have caf2:=caf 2;clear caf) | (go_at_call_of 135 (Value.slice uo ul uc);refine (n8 _ _ n1 d2 (L1+L2+1) _ ((NX.out.keep0 (aa GW.out (by first | exact aa GG (aj _) | exact aa GG ah | exact GG))).mono (by omega)) ((pa.keep0 (by first | exact aj _ | exact ah | exact ae _ _)).mono (by omega)) (.inr hd2) (by omega)).mono ?_;rintro e wb ⟨vb,rfl,pb,gb⟩;rw [<- EG1.out] at pb;obtain ⟨pbo,pbl,pbc,rfl,_,_,_⟩:=pb.shape;have KP:=aa (by first | exact aj _ | exact ah | exact ae _ _) gb;have GG:W.grownBy wb none:=aa (by first | exact aa GG (aj _) | exact aa GG ah | exact GG) gb;(try have pa:=pa.keep0 KP);(try have pc:=pc.keep0 KP);(try have pd:=pd.keep0 KP);clear KP;obtain ⟨⟨cb0,cb1,cb2⟩,⟨cb3,cb4,cb5⟩,⟨cb6,cb7,cb8⟩,cbf⟩:=CELLS.out wb GG;have cbf0:=cbf 0;have cbf1:=cbf 1;have cbf2:=cbf 2;clear cbf) | (go_at_call_of 136 (Value.agg #[.bool b1,.slice uo ul uc,.slice do_ dl dc]);refine (gP _ b1 n1 d1 L1 _ (HX.out.keep0 (aa GW.out (by first | exact aa GG (aj _) | exact aa GG ah | exact GG)))).mono ?_;rintro e wc2 ⟨vc2,rfl,pc,gc⟩;obtain ⟨pco,pcl,pcc,rfl,_,_,_⟩:=pc.shape;have KP:=aa (by first | exact aj _ | exact ah | exact ae _ _) gc;have GG:W.grownBy wc2 none:=aa (by first | exact aa GG (aj _) | exact aa GG ah | exact GG) gc;(try have pa:=pa.keep0 KP);(try have pb:=pb.keep0 KP);(try have pd:=pd.keep0 KP);clear KP;obtain ⟨⟨cc0,cc1,cc2⟩,⟨cc3,cc4,cc5⟩,⟨cc6,cc7,cc8⟩,ccf⟩:=CELLS.out wc2 GG;have ccf0:=ccf 0;have ccf1:=ccf 1;have ccf2:=ccf 2;clear ccf) | (go_at_call_of 135 (Value.slice vo vl vc);refine (n8 _ _ n2 d1 (L1+L2+1) _ ((NY.out.keep0 (aa GW.out (by first | exact aa GG (aj _) | exact aa GG ah | exact GG))).mono (by omega)) ((pc.keep0 (by first | exact aj _ | exact ah | exact ae _ _)).mono (by omega)) (.inr hd1) (by omega)).mono ?_;rintro e wd ⟨vd,rfl,pd,gd⟩;rw [<- EG2.out] at pd;obtain ⟨pdo,pdl,pdc,rfl,_,_,_⟩:=pd.shape;have KP:=aa (by first | exact aj _ | exact ah | exact ae _ _) gd;have GG:W.grownBy wd none:=aa (by first | exact aa GG (aj _) | exact aa GG ah | exact GG) gd;(try have pa:=pa.keep0 KP);(try have pb:=pb.keep0 KP);(try have pc:=pc.keep0 KP);clear KP;obtain ⟨⟨cd0,cd1,cd2⟩,⟨cd3,cd4,cd5⟩,⟨cd6,cd7,cd8⟩,cdf⟩:=CELLS.out wd GG;have cdf0:=cdf 0;have cdf1:=cdf 1;have cdf2:=cdf 2;clear cdf))
   all_goals (go_wp2_with fail;go_meet;exact ⟨(by first | exact aa GG (aj _) | exact aa GG ah | exact GG),⟨_,_,_,rfl⟩,⟨_,_,_,rfl⟩,pb.keep0 (by first | exact aj _ | exact ah | exact ae _ _),pd.keep0 (by first | exact aj _ | exact ah | exact ae _ _)⟩)
  case rest =>
   clear GG s0 s1 s2 s3 s4 s5;obtain ⟨GG,⟨go,gl,gc,rfl⟩,⟨ho,hl9,hc,rfl⟩,S6,S7⟩:=hcut.out;clear hcut;obtain ⟨⟨s0,s1,s2⟩,⟨s3,s4,s5⟩,_⟩:=CELLS.out wc GG;go_wp2;go_cut [8] (fun s8 wx=>Hid (W.grownBy wx none/\(∃ o l c,s8=.slice o l c)/\aU wx s8 (X1*X2) (L1+L2)/\aU wx (.slice go gl gc) G1 (L1+L2+1)/\aU wx (.slice ho hl9 hc) G2 (L1+L2+1)))
   case first =>
    go_region_held3 (fun w'=>w'.cell? ⟨w.heap.size,0,none⟩=some (.bool b1)/\w'.cell? ⟨w.heap.size,1,none⟩=some (.slice uo ul uc)/\w'.cell? ⟨w.heap.size,2,none⟩=some (.slice do_ dl dc)/\w'.cell? ⟨w.heap.size+1,0,none⟩=some (.bool b2)/\w'.cell? ⟨w.heap.size+1,1,none⟩=some (.slice vo vl vc)/\w'.cell? ⟨w.heap.size+1,2,none⟩=some (.slice eo el ec)) (go_keep)
     (first | (go_at_call_of 137 (Value.slice uo ul uc);refine (fM _ _ n1 G1 (L1+L2+1) _ ((NX.out.keep0 (aa GW.out (by first | exact aa GG (aj _) | exact aa GG ah | exact GG))).mono (by omega)) (S6.keep0 (by first | exact aj _ | exact ah | exact ae _ _)) hg1 (by omega)).mono ?_;rintro e wa ⟨va,rfl,qa,ga⟩;rw [<- EX1.out] at qa;obtain ⟨qao,qal,qac,rfl,_,_,_⟩:=qa.shape;have KP:=aa (by first | exact aj _ | exact ah | exact ae _ _) ga;have GG:W.grownBy wa none:=aa (by first | exact aa GG (aj _) | exact aa GG ah | exact GG) ga;(try have qb:=qb.keep0 KP);(try have qc:=qc.keep0 KP);(try have S6:=S6.keep0 KP);(try have S7:=S7.keep0 KP);clear KP;obtain ⟨⟨ca0,ca1,ca2⟩,⟨ca3,ca4,ca5⟩,⟨ca6,ca7,ca8⟩,caf⟩:=CELLS.out wa GG;have caf0:=caf 0;have caf1:=caf 1;have caf2:=caf 2;clear caf) | (go_at_call_of 137 (Value.slice vo vl vc);refine (fM _ _ n2 G2 (L1+L2+1) _ ((NY.out.keep0 (aa GW.out (by first | exact aa GG (aj _) | exact aa GG ah | exact GG))).mono (by omega)) (S7.keep0 (by first | exact aj _ | exact ah | exact ae _ _)) hg2 (by omega)).mono ?_;rintro e wb ⟨vb,rfl,qb,gb⟩;rw [<- EX2.out] at qb;obtain ⟨qbo,qbl,qbc,rfl,_,_,_⟩:=qb.shape;have KP:=aa (by first | exact aj _ | exact ah | exact ae _ _) gb;have GG:W.grownBy wb none:=aa (by first | exact aa GG (aj _) | exact aa GG ah | exact GG) gb;(try have qa:=qa.keep0 KP);(try have qc:=qc.keep0 KP);(try have S6:=S6.keep0 KP);(try have S7:=S7.keep0 KP);clear KP;obtain ⟨⟨cb0,cb1,cb2⟩,⟨cb3,cb4,cb5⟩,⟨cb6,cb7,cb8⟩,cbf⟩:=CELLS.out wb GG;have cbf0:=cbf 0;have cbf1:=cbf 1;have cbf2:=cbf 2;clear cbf) | (go_at_call 138;refine (gJ _ _ X1 X2 L1 L2 _ ((qa.keep0 (by first | exact aj _ | exact ah | exact ae _ _)).tight hX1) ((qb.keep0 (by first | exact aj _ | exact ah | exact ae _ _)).tight hX2) (by omega)).mono ?_;rintro e wc2 ⟨vc2,rfl,qc,gc,_⟩;obtain ⟨qco,qcl,qcc,rfl,_,_,_⟩:=qc.shape;have KP:=aa (by first | exact aj _ | exact ah | exact ae _ _) gc;have GG:W.grownBy wc2 none:=aa (by first | exact aa GG (aj _) | exact aa GG ah | exact GG) gc;(try have qa:=qa.keep0 KP);(try have qb:=qb.keep0 KP);(try have S6:=S6.keep0 KP);(try have S7:=S7.keep0 KP);clear KP;obtain ⟨⟨cc0,cc1,cc2⟩,⟨cc3,cc4,cc5⟩,⟨cc6,cc7,cc8⟩,ccf⟩:=CELLS.out wc2 GG;have ccf0:=ccf 0;have ccf1:=ccf 1;have ccf2:=ccf 2;clear ccf))
    all_goals (go_wp2_with fail;go_meet;exact ⟨(by first | exact aa GG (aj _) | exact aa GG ah | exact GG),⟨_,_,_,rfl⟩,qc.keep0 (by first | exact aj _ | exact ah | exact ae _ _),S6.keep0 (by first | exact aj _ | exact ah | exact ae _ _),S7.keep0 (by first | exact aj _ | exact ah | exact ae _ _)⟩)
   case rest =>
    clear GG s0 s1 s2 s3 s4 s5 S6 S7;obtain ⟨GG,⟨io,il,ic,rfl⟩,S8,S6,S7⟩:=hcut.out;clear hcut;obtain ⟨⟨s0,s1,s2⟩,⟨s3,s4,s5⟩,_⟩:=CELLS.out wc GG;go_wp2;go_region_held3 (fun w'=>w'.cell? ⟨w.heap.size,0,none⟩=some (.bool b1)/\w'.cell? ⟨w.heap.size,1,none⟩=some (.slice uo ul uc)/\w'.cell? ⟨w.heap.size,2,none⟩=some (.slice do_ dl dc)/\w'.cell? ⟨w.heap.size+1,0,none⟩=some (.bool b2)/\w'.cell? ⟨w.heap.size+1,1,none⟩=some (.slice vo vl vc)/\w'.cell? ⟨w.heap.size+1,2,none⟩=some (.slice eo el ec)) (go_keep)
     (first | (go_at_call_of 136 (Value.agg #[.bool b1,.slice uo ul uc,.slice do_ dl dc]);refine (gP _ b1 n1 d1 L1 _ (HX.out.keep0 (aa GW.out (by first | exact aa GG (aj _) | exact aa GG ah | exact GG)))).mono ?_;rintro e wa ⟨va,rfl,ra,ga⟩;obtain ⟨rao,ral,rac,rfl,_,_,_⟩:=ra.shape;have KP:=aa (by first | exact aj _ | exact ah | exact ae _ _) ga;have GG:W.grownBy wa none:=aa (by first | exact aa GG (aj _) | exact aa GG ah | exact GG) ga;(try have rb:=rb.keep0 KP);(try have rc:=rc.keep0 KP);(try have rd:=rd.keep0 KP);(try have re:=re.keep0 KP);(try have S6:=S6.keep0 KP);(try have S7:=S7.keep0 KP);(try have S8:=S8.keep0 KP);clear KP;obtain ⟨⟨ca0,ca1,ca2⟩,⟨ca3,ca4,ca5⟩,⟨ca6,ca7,ca8⟩,caf⟩:=CELLS.out wa GG;have caf0:=caf 0;have caf1:=caf 1;have caf2:=caf 2;clear caf) | (go_at_call_of 137 (Value.slice ho hl9 hc);refine (fM _ _ d1 G2 (L1+L2+1) _ ((ra.keep0 (by first | exact aj _ | exact ah | exact ae _ _)).mono (by omega)) (S7.keep0 (by first | exact aj _ | exact ah | exact ae _ _)) hg2 (by omega)).mono ?_;rintro e wb ⟨vb,rfl,rb,gb⟩;rw [<- EY1.out] at rb;obtain ⟨rbo,rbl,rbc,rfl,_,_,_⟩:=rb.shape;have KP:=aa (by first | exact aj _ | exact ah | exact ae _ _) gb;have GG:W.grownBy wb none:=aa (by first | exact aa GG (aj _) | exact aa GG ah | exact GG) gb;(try have ra:=ra.keep0 KP);(try have rc:=rc.keep0 KP);(try have rd:=rd.keep0 KP);(try have re:=re.keep0 KP);(try have S6:=S6.keep0 KP);(try have S7:=S7.keep0 KP);(try have S8:=S8.keep0 KP);clear KP;obtain ⟨⟨cb0,cb1,cb2⟩,⟨cb3,cb4,cb5⟩,⟨cb6,cb7,cb8⟩,cbf⟩:=CELLS.out wb GG;have cbf0:=cbf 0;have cbf1:=cbf 1;have cbf2:=cbf 2;clear cbf) | (go_at_call_of 136 (Value.agg #[.bool b2,.slice vo vl vc,.slice eo el ec]);refine (gP _ b2 n2 d2 L2 _ (HY.out.keep0 (aa GW.out (by first | exact aa GG (aj _) | exact aa GG ah | exact GG)))).mono ?_;rintro e wc2 ⟨vc2,rfl,rc,gc2⟩;obtain ⟨rco,rcl,rcc,rfl,_,_,_⟩:=rc.shape;have KP:=aa (by first | exact aj _ | exact ah | exact ae _ _) gc2;have GG:W.grownBy wc2 none:=aa (by first | exact aa GG (aj _) | exact aa GG ah | exact GG) gc2;(try have ra:=ra.keep0 KP);(try have rb:=rb.keep0 KP);(try have rd:=rd.keep0 KP);(try have re:=re.keep0 KP);(try have S6:=S6.keep0 KP);(try have S7:=S7.keep0 KP);(try have S8:=S8.keep0 KP);clear KP;obtain ⟨⟨cc0,cc1,cc2⟩,⟨cc3,cc4,cc5⟩,⟨cc6,cc7,cc8⟩,ccf⟩:=CELLS.out wc2 GG;have ccf0:=ccf 0;have ccf1:=ccf 1;have ccf2:=ccf 2;clear ccf) | (go_at_call_of 137 (Value.slice go gl gc);refine (fM _ _ d2 G1 (L1+L2+1) _ ((rc.keep0 (by first | exact aj _ | exact ah | exact ae _ _)).mono (by omega)) (S6.keep0 (by first | exact aj _ | exact ah | exact ae _ _)) hg1 (by omega)).mono ?_;rintro e wd ⟨vd,rfl,rd,gd⟩;rw [<- EY2.out] at rd;obtain ⟨rdo,rdl,rdc,rfl,_,_,_⟩:=rd.shape;have KP:=aa (by first | exact aj _ | exact ah | exact ae _ _) gd;have GG:W.grownBy wd none:=aa (by first | exact aa GG (aj _) | exact aa GG ah | exact GG) gd;(try have ra:=ra.keep0 KP);(try have rb:=rb.keep0 KP);(try have rc:=rc.keep0 KP);(try have re:=re.keep0 KP);(try have S6:=S6.keep0 KP);(try have S7:=S7.keep0 KP);(try have S8:=S8.keep0 KP);clear KP;obtain ⟨⟨cd0,cd1,cd2⟩,⟨cd3,cd4,cd5⟩,⟨cd6,cd7,cd8⟩,cdf⟩:=CELLS.out wd GG;have cdf0:=cdf 0;have cdf1:=cdf 1;have cdf2:=cdf 2;clear cdf) | (go_at_call 138;refine (gJ _ _ Y1 Y2 (L1+1) (L2+1) _ ((rb.keep0 (by first | exact aj _ | exact ah | exact ae _ _)).tight hY1) ((rd.keep0 (by first | exact aj _ | exact ah | exact ae _ _)).tight hY2) (by omega)).mono ?_;rintro e we ⟨ve,rfl,re,ge,_⟩;obtain ⟨reo,rel,rec,rfl,_,_,_⟩:=re.shape;have KP:=aa (by first | exact aj _ | exact ah | exact ae _ _) ge;have GG:W.grownBy we none:=aa (by first | exact aa GG (aj _) | exact aa GG ah | exact GG) ge;(try have ra:=ra.keep0 KP);(try have rb:=rb.keep0 KP);(try have rc:=rc.keep0 KP);(try have rd:=rd.keep0 KP);(try have S6:=S6.keep0 KP);(try have S7:=S7.keep0 KP);(try have S8:=S8.keep0 KP);clear KP;obtain ⟨⟨ce0,ce1,ce2⟩,⟨ce3,ce4,ce5⟩,⟨ce6,ce7,ce8⟩,cef⟩:=CELLS.out we GG;have cef0:=cef 0;have cef1:=cef 1;have cef2:=cef 2;clear cef) | (go_at_call 139;refine (kx _ _ _ (X1*X2) (Y1*Y2) (L1+L2+1) _ ((S8.keep0 (by first | exact aj _ | exact ah | exact ae _ _)).mono (by omega)) ((re.keep0 (by first | exact aj _ | exact ah | exact ae _ _)).tight hYY) hY0 HCOP.out).mono ?_;rintro e wf ⟨v6,rfl,f1,f2⟩;obtain ⟨fo,fl,fc,fo2,fl2,fc2,rfl⟩:=f1.shape;have GG:W.grownBy wf none:=aa (by first | exact aa GG (aj _) | exact aa GG ah | exact GG) f2;obtain ⟨⟨g0,g1,g2⟩,⟨g3,g4,g5⟩,⟨g6,g7,g8⟩,gf⟩:=CELLS.out wf GG;have gf0:=gf 0;have gf1:=gf 1;have gf2:=gf 2;clear gf))
    all_goals
     have F1:=ab f1;have HGd:=ab GG;clear f1 f2;go_wp2;refine bodyPost_ret (v:=.agg #[.bool (bn (b1 != b2) (X1*X2) (Y1*Y2)).1,.slice fo fl fc,.slice fo2 fl2 fc2]) (by first | (simp [results,Tryz.results101,go_sem,g6,g7,g8];done) | (simp [results,Tryz.results101,go_sem,g6,g7,g8];rfl)) rfl ?_;exact ⟨_,rfl,F1.out.other (NW.out wf HGd.out) bF,ai (ai (ai (aa GW.out HGd.out) _ _ (by simp;omega)) _ _ (by simp;omega)) _ _ (by simp;omega)⟩
theorem q9 (x y:Value) (b1 b2:Bool) (n1 d1 L1 n2 d2 L2:Nat) (w:World) (hx:FV w x b1 n1 d1 L1) (hy:FV w y b2 n2 d2 L2) (hl:L1+L2<=7000000000000) :
  Calls Tryz.prog 101 #[x,y] w fun e w'=>fW w (bn (b1 != b2) (n1*n2) (d1*d2)).1 (bn (b1 != b2) (n1*n2) (d1*d2)).2.1 (bn (b1 != b2) (n1*n2) (d1*d2)).2.2 (L1+L2+1) e w':=by
 have HX:=hx;have HY:=hy;obtain ⟨up,down,rfl,h1,h2,h3,h4⟩:=hx;obtain ⟨up2,down2,rfl,k1,k2,k3,k4⟩:=hy;obtain ⟨uo,ul,uc,rfl,_⟩:=h1.shape;obtain ⟨vo,vl,vc,rfl,_⟩:=k1.shape;rcases h2 with ⟨rfl,rfl⟩ | ⟨h2,hd⟩
 ·rcases k2 with ⟨rfl,rfl⟩ | ⟨k2,kd⟩
  ·exact sj uo vo ul uc vl vc b1 b2 n1 L1 n2 L2 w h1 k1 hl
  ·obtain ⟨eo,el,ec,rfl,e1,e2,e3⟩:=k2.shape;have hel:0<el:=by
    rcases Nat.eq_zero_or_pos el with h | h
    ·have:=e1.1 h;omega
    ·exact h
   exact nG uo vo none eo ul uc vl vc 0 0 el ec b1 b2 n1 1 L1 n2 d2 L2 w HX HY hl (fun wx=>.inr ⟨cM _ _ _ _ wx,fun wy=>fB _ _ _ _ _ _ _ wy hel e2 e3⟩)
 ·obtain ⟨do_,dl,dc,rfl,e1,e2,e3⟩:=h2.shape;have hdl:0<dl:=by
   rcases Nat.eq_zero_or_pos dl with h | h
   ·have:=e1.1 h;omega
   ·exact h
  obtain ⟨vo2,vl2,vc2,eo,el,ec,e⟩:=HY.shape;simp only [Value.agg.injEq,Array.mk.injEq,List.cons.injEq,and_true,true_and] at e;obtain ⟨_,rfl⟩:=e;exact nG uo vo do_ eo ul uc vl vc dl dc el ec b1 b2 n1 d1 L1 n2 d2 L2 w HX HY hl (fun wx=>.inl (fB _ _ _ _ _ _ _ wx hdl e2 e3))
end Go.Proofs.YthblidglcppakaaGreatDoor
namespace Go.Proofs.YthblidglcppakaaGreatDoor
open Go.RowKit
def FQ (w:World) (v:Value) (q:Rat) (L:Nat):Prop:=FV w v (rB q) (rN q) q.den L
def AN (w:World) (q:Rat) (L:Nat) (e:Ending) (w':World):Prop:=∃ v,e=.returned v/\FQ w' v q L/\w.grownBy w' none
theorem FQ.keep0 {w w':World} {v:Value} {q:Rat} {L:Nat} (h:FQ w v q L) (hg:w.grownBy w' none):FQ w' v q L:=FV.keep0 h hg
theorem FQ.mono {w:World} {v:Value} {q:Rat} {L L':Nat} (h:FQ w v q L) (hl:L<=L'):FQ w v q L':=by
 obtain ⟨up,down,e,h1,h2,h3,h4⟩:=h;refine ⟨up,down,e,h1.mono hl,?_,h3,h4⟩;rcases h2 with h2 | ⟨h2,h5⟩
 ·exact .inl h2
 ·exact .inr ⟨h2.mono hl,h5⟩
theorem FQ.shape {w:World} {v:Value} {q:Rat} {L:Nat} (h:FQ w v q L):∃ uo ul uc do_ dl dc,v=.agg #[.bool (rB q),.slice uo ul uc,.slice do_ dl dc]:=FV.shape h
theorem xZ (b:Bool) (n d:Nat):bn b n d=(rB (mkRat (fO b n) d),rN (mkRat (fO b n) d),(mkRat (fO b n) d).den):=by
 unfold bn;by_cases h:n=0∨d=0
 ·rw [if_pos h,mk_zero b n d h];rfl
 ·rw [if_neg h];obtain ⟨h1,h2,h3⟩:=uq b n d (fun e=>h (.inl e)) (fun e=>h (.inr e));unfold rB rN;rw [h1,h2,h3]
theorem fW.q {w:World} {b:Bool} {n d L:Nat} {q:Rat} (hq:mkRat (fO b n) d=q) {e:Ending} {w':World} (h:fW w (bn b n d).1 (bn b n d).2.1 (bn b n d).2.2 L e w'):AN w q L e w':=by
 rw [xZ,hq] at h;exact h
theorem eM (x y:Value) (p q:Rat) (L1 L2:Nat) (w:World) (hx:FQ w x p L1) (hy:FQ w y q L2) (hl:L1+L2<=7000000000000) :
  Calls Tryz.prog 101 #[x,y] w fun e w'=>AN w (p*q) (L1+L2+1) e w':=by
 refine (q9 x y _ _ _ _ L1 _ _ L2 w hx hy hl).mono ?_;intro e w' h;exact fW.q (q_mul p q) h
def dN (l:List UInt8):Rat :=
 if bU (Lib.cut (Lib.trimPrefix l [45]) [47]).1 && bU (ei (Lib.trimPrefix l [45])) then
  mkRat (fO (Lib.hasPrefix l [45]) (aZ (Lib.cut (Lib.trimPrefix l [45]) [47]).1)) (aZ (ei (Lib.trimPrefix l [45])))
 else 0
theorem Ch (l:List UInt8):im l=(rB (dN l),rN (dN l),(dN l).den):=by
 unfold im dN;split
 ·exact xZ _ _ _
 ·rfl
theorem Cv (s:ByteArray) (m:Int) (w:World) (hs:s.size<=600000000) (hml:w.cell? ⟨1,0,none⟩=some (.int .i64 m)) :
  Calls Tryz.prog 97 #[.string s] w fun e w'=>AN w (dN s.data.toList) (s.size+1) e w':=by
 refine (uC s m w hs hml).mono ?_;intro e w' h;unfold OfE at h;rw [Ch] at h;exact h
end Go.Proofs.YthblidglcppakaaGreatDoor
namespace Go.Proofs.YthblidglcppakaaGreatDoor
open Go.RowKit Go.Sort
def eY (w:World):Prop:=Lib.TabIs Tryz.prog w "internal/strconv.uint64pow10" .u64 Lib.pow10Tab
theorem eY.keep0 {w w':World} (h:eY w) (hg:w.grownBy w' none):eY w':=by
 unfold eY Lib.TabIs World.var? at *;cases hn:Tryz.prog.globalNamed "internal/strconv.uint64pow10" with
 | none=>simp [hn] at h
 | some g =>
  simp only [hn,Option.bind_some] at h ⊢;have hlt:g<w.heap.size:=by
   rcases Nat.lt_or_ge g w.heap.size with h' | h'
   ·exact h'
   ·rw [Array.getElem?_eq_none h'] at h;simp at h
  rw [hg.block g hlt (by simp)];exact h
theorem gr_grow {w:World} (k:Nat) (os:Array Obj):w.grownBy (grow (w.drewN k) os) none:=by
 refine ⟨rfl,rfl,rfl,?_,?_⟩
 ·simp [grow]
 ·intro b hb _;show (w.heap++os)[b]? = w.heap[b]?
  rw [Array.getElem?_append_left hb]
theorem tZ (w:World) (T:TypeId) (nd:Nat) (hs:nd<=24):Holds (fun (b:UInt8)=>Value.int .u8 (b.toNat:Int)) (w.alloc (.cells Lib.zeros24 T)) w.heap.size 0 (Array.replicate nd (0:UInt8)):=fun j hj=>by
 have hj':j<nd:=by simpa using hj
 refine ⟨?_,World.frozen?_alloc_new _ _ _ _⟩;rw [World.cell?_alloc_new,Lib.zeros24_at _ (by omega),getElem!_pos _ j hj];simp
theorem By (w:World) (o:Obj) (dk:Array UInt8) (k:Nat):∃ os,(putRow (fun (b:UInt8)=>Value.int .u8 (b.toNat:Int)) (w.alloc o) w.heap.size 0 dk).drewN k=grow (w.drewN k) os:=by
 rw [alloc_eq_grow];obtain ⟨os',_,e⟩:=putRow_grow_new (fun (b:UInt8)=>Value.int .u8 (b.toNat:Int)) w #[o] w.heap.size 0 dk (Nat.le_refl _);exact ⟨os',by rw [e];rfl⟩
theorem oZ (u:Nat) (w:World) (hu64:u<18446744073709551616) (htab:eY w) :
  Calls Tryz.prog 146 #[.int .u64 (u:Nat),.int .i64 10] w fun e w'=>e=.returned (.string ⟨(Lib.decDigits u).toArray⟩)/\w.grownBy w' none:=by
 by_cases hs:u<100
 ·go_enter Tryz.func146,Tryz.ntmps146
  go_wp2_with fail;refine (Tryz.internal_strconv_small u hs _).mono ?_;rintro e w' ⟨rfl,rfl⟩;go_wp2;go_ret;exact ⟨rfl,ae _ _⟩
 ·have hu1:1<=u:=by omega
  have hnd20:Lib.nDigits u<=20:=by have:=Lib.numDigits_eq u hu1 hu64;split at this<;>omega
  have hal:Tryz.prog.arrayLen 222=24:=by kernel_rfl
  have hsl:∀ W,(Instr.sliceAt 222 (.pointer (some ⟨w.heap.size,0,none⟩)) none (some (.int .i64 (Lib.nDigits u:Int))) none).run Tryz.prog W=.ok (.slice (some ⟨w.heap.size,0,none⟩) (Lib.nDigits u) 24) W:=fun W=>by
   rw [run_sliceAt_array_h W 222 ⟨w.heap.size,0,none⟩ (by simp [Program.arrayLen,Program.elem,Tryz.underlying222]) .i64 (Lib.nDigits u:Int) (by omega) (by rw [hal];omega)];go_simp
  have hH0:=tZ w 222 (Lib.nDigits u) (by omega);have hfmt:=Tryz.internal_strconv_formatBase10 w.heap.size 0 24 u (Array.replicate (Lib.nDigits u) 0) (w.alloc (.cells Lib.zeros24 222)) hH0 (by rw [Array.size_replicate];exact Lib.lt_pow_nDigits u) hu64 (by rw [Array.size_replicate];omega);rw [Array.size_replicate] at hfmt;have HH0:=Lib.hid hH0;have HF0:=Lib.hid hfmt;clear hH0 hal hfmt;go_enter Tryz.func146,Tryz.ntmps146
  go_wp2_with fail;refine (Tryz.internal_strconv_numDigits u hu1 hu64 _ (Lib.tabIs_alloc htab _)).mono ?_;rintro e w' ⟨rfl,rfl⟩;go_wp2_with fail;refine HF0.out.mono ?_;rintro e w' ⟨rfl,k,v',dk,rfl,hF⟩;have hcv:(convert 158 9 (.slice (some ⟨w.heap.size,0,none⟩) (Lib.nDigits u) 24)).run Tryz.prog ((putRow (fun (b:UInt8)=>Value.int .u8 (b.toNat:Int)) (w.alloc (.cells Lib.zeros24 222)) w.heap.size 0 dk).drewN k)=.ok (.string ⟨(Lib.decDigits u).toArray⟩) ((putRow (fun (b:UInt8)=>Value.int .u8 (b.toNat:Int)) (w.alloc (.cells Lib.zeros24 222)) w.heap.size 0 dk).drewN k):=by
   have h:=run_convert_bytes_back (P:=Tryz.prog) ((putRow (fun (b:UInt8)=>Value.int .u8 (b.toNat:Int)) (w.alloc (.cells Lib.zeros24 222)) w.heap.size 0 dk).drewN k) 158 9 5 ⟨w.heap.size,0,none⟩ 24 (Lib.decDigits u) Tryz.underlying158 Tryz.underlying5 Tryz.underlying9 (fun j hj=>by
    rw [Lib.row_is_numeral hF j hj,Lib.add_plain,World.cell?_drewN];exact cell?_putRow (fun (b:UInt8)=>Value.int .u8 (b.toNat:Int)) _ w.heap.size 0 _ dk HH0.out (by rw [hF.size,Array.size_replicate]) j (by rw [hF.size];rw [Lib.decDigits_length] at hj;exact hj))
   rw [Lib.decDigits_length] at h;exact h
  go_wp2;go_ret;obtain ⟨os,eo⟩:=By w (.cells Lib.zeros24 222) dk k;rw [eo];exact ⟨rfl,gr_grow _ _⟩
theorem qB (u:Nat) (w:World) (hu64:u<18446744073709551616) (htab:eY w) :
  Calls Tryz.prog 112 #[.int .u64 (u:Nat),.int .i64 10] w fun e w'=>e=.returned (.string ⟨(Lib.decDigits u).toArray⟩)/\w.grownBy w' none:=by
 have H:=ab htab;clear htab;go_enter Tryz.func112,Tryz.ntmps112
 go_wp2_with fail;refine (oZ u _ hu64 H.out).mono ?_;rintro e w' ⟨rfl,h⟩;have HG:=ab h;clear h;go_wp2;go_ret;exact ⟨rfl,HG.out⟩
end Go.Proofs.YthblidglcppakaaGreatDoor
namespace Go.Proofs
open Go.RowKit
set_option maxRecDepth 10000
def Tryz.wsRen:Go.Shelf.Ren:=⟨fun | 166=>113 | 240=>147 | 276=>183 | n=>n,fun | 0=>0 | 3=>3 | 4=>4 | 9=>9 | 20=>20 | 37=>158 | 70=>157 | 72=>160 | 75=>163 | 164=>227 | 5=>5 | 80=>133 | n=>n,fun | n=>n⟩
theorem Tryz.wsLays:Go.Proofs.Lays.n166 Tryz.prog Tryz.wsRen:={
 mixed:=by kernel_rfl
 f166:=Tryz.func113.trans (congrArg some (by kernel_rfl))
 f240:=Tryz.func147.trans (congrArg some (by kernel_rfl))
 f276:=Tryz.func183.trans (congrArg some (by kernel_rfl))
 t0:=Tryz.underlying0
 a0:=Tryz.isAgg0
 z0:=Tryz.sizeOf0
 v0:=Tryz.zeroValue0
 t3:=Tryz.underlying3
 a3:=Tryz.isAgg3
 z3:=Tryz.sizeOf3
 v3:=Tryz.zeroValue3
 t4:=Tryz.underlying4
 a4:=Tryz.isAgg4
 z4:=Tryz.sizeOf4
 v4:=Tryz.zeroValue4
 t9:=Tryz.underlying9
 a9:=Tryz.isAgg9
 z9:=Tryz.sizeOf9
 v9:=Tryz.zeroValue9
 t20:=Tryz.underlying20
 a20:=Tryz.isAgg20
 z20:=Tryz.sizeOf20
 v20:=Tryz.zeroValue20
 t37:=Tryz.underlying158
 a37:=Tryz.isAgg158
 z37:=Tryz.sizeOf158
 v37:=Tryz.zeroValue158
 t70:=Tryz.underlying157
 a70:=Tryz.isAgg157
 z70:=Tryz.sizeOf157
 v70:=Tryz.zeroValue157
 t72:=Tryz.underlying160
 a72:=Tryz.isAgg160
 z72:=Tryz.sizeOf160
 v72:=Tryz.zeroValue160
 t75:=Tryz.underlying163
 a75:=Tryz.isAgg163
 z75:=Tryz.sizeOf163
 v75:=Tryz.zeroValue163
 t164:=Tryz.underlying227
 a164:=Tryz.isAgg227
 z164:=Tryz.sizeOf227
 v164:=Tryz.zeroValue227 }
theorem Tryz.wsExtra:Builder.Extra Tryz.prog Tryz.wsRen:={
 sizeBuilder:=by kernel_rfl
 liesBuilder:=by kernel_rfl
 t5:=Tryz.underlying5
 a5:=Tryz.isAgg5
 z5:=Tryz.sizeOf5
 v5:=Tryz.zeroValue5
 infoByte:=by kernel_rfl
 cellsByte:=by kernel_rfl
 sizeByte:=by kernel_rfl
 neB5:=by decide }
end Go.Proofs
namespace Go.Proofs.YthblidglcppakaaGreatDoor
open Go.RowKit
theorem ji {w w':World} (h:Below w.heap.size w w'):w.grownBy w' none:=⟨h.os,h.tape,h.output,h.size,fun k hk _=>h.block k hk⟩
theorem gZ (B b:Nat) (bs:List Value) (s:ByteArray) (w:World) (h:Lib.IsBuilder 160 5 B b bs w) (hlen:bs.length+s.size<=140737488355328) (hBw:B<=w.heap.size) :
  Calls Tryz.prog 113 #[.pointer (some ⟨b,0,none⟩),.string s] w fun e w'=>e=.returned (.tuple #[.int .i64 s.size,.nilIface])/\(Lib.BuilderAt 160 5 B b (.pointer (some ⟨b,0,none⟩)) (bs++Lib.strCells s) w'/\Below B w w') :=
 Any.Builder_WriteString Tryz.wsLays Tryz.wsExtra B b bs s w h hlen hBw
theorem lI (w:World) {ops:Array Oper} {rest:List Oper} {o:Oper} {a:Act} {Q:Exit->Act->World->Prop} (hg:o.guard=none) (x y:Operand) (hop:o.op=Op.call { callee:=.builtin .append,args:=#[x,y],argTypes:=#[43,43] }) (base:Nat) (v:Value) (l:List Nat) (hx:a.eval x=v) (g:Nat) (z:Int) (c:Nat) (hz:z=(c:Int)) (hy:a.eval y=.slice (some ⟨g,0,none⟩) 1 1) (hcell:w.cell? ⟨g,0,none⟩=some (.int .u32 z)) (h:gB w base v l) (hl:l.length<=10000000000000) (hb:base<=w.heap.size)
  (hK:∀ v' w',gB w' base v' (l++[c])->w.grownBy w' (az v)->wpList Tryz.prog ops Q rest (a.put o.dst v') w') :
  wpList Tryz.prog ops Q (o :: rest) a w:=by
 obtain ⟨i0,hi0,hz0,hz1,hz2⟩:=info_parts Tryz.info32;refine wpList_append_own w hg x y 43 hop base 140 i0 (.int .u32 0) 1 4 Tryz.underlying43 hi0 hz0 hz1 hz2 rfl (by decide) v l.length (au l).toList hx h ⟨g,0,none⟩ 1 1 [.int .u32 z] hy rfl ?_ ?_ (by unfold maxLen;omega) (by omega) hb ?_
 ·intro j u hj;match j with
  | 0 =>
   simp only [List.getElem?_cons_zero,Option.some.injEq] at hj;subst hj;simpa [Addr.add] using hcell
  | j+1=>simp at hj
 ·intro u hu;simp only [List.mem_singleton] at hu;subst hu;rfl
 ·intro v' w' hown hgr _;refine hK v' w' ?_ (by rw [<- nN];exact hgr);unfold gB;rw [List.length_append,List.length_singleton];have e:(au (l++[c])).toList=(au l).toList++[.int .u32 z]:=by rw [hz];simp [au]
  rw [e];exact hown
theorem kG {w:World} {v:Value} {n L:Nat} (h:aU w v n L):n<4294967296^L:=by
 obtain ⟨xs,h1,h2,h3,h4⟩:=h;have:=bD h1.sm;rw [h3] at this;exact Nat.lt_of_lt_of_le this (Nat.pow_le_pow_right (by decide) h4)
def AT (cs:List Nat):Prop:=∃ F c,cs=F++[c]/\c≠0
theorem AT.pos {cs:List Nat} (h:AT cs) (i:Nat) (hi:i<cs.length):0<dS 1000000000 (cs.drop i):=by
 obtain ⟨F,c,rfl,hc⟩:=h;have hF:i<=F.length:=by simp at hi;omega
 rw [List.drop_append_of_le_length hF,jW];have:0<1000000000^(F.drop i).length*c:=Nat.mul_pos (Nat.pow_pos (by decide)) (by omega);omega
def ChkR (w:World) (B n L:Nat) (k:Nat) (cv lv:Value) (wr:World):Prop :=
 ∃ (m:Nat) (cs:List Nat),gB wr B cv cs/\B<=wr.heap.size/\gN wr w.heap.size lv m L/\(∀ k,az lv=some k->k<B)/\(∀ c∈cs,c<1000000000)/\n=dS 1000000000 cs+1000000000^cs.length*m/\(m≠0∨AT cs)/\w.grownBy wr none/\m=k
theorem qS {n m L:Nat} {cs:List Nat} (h:n=dS 1000000000 cs+1000000000^cs.length*m) (hm:m≠0) (hn:n<4294967296^L):cs.length<32*L:=by
 have h1:1000000000^cs.length<=n:=by
  have:1000000000^cs.length*1<=1000000000^cs.length*m:=Nat.mul_le_mul_left _ (by omega);omega
 have h2:2^cs.length<=1000000000^cs.length:=Nat.pow_le_pow_left (by decide) _;have h3:4294967296^L=2^(32*L):=by rw [Nat.pow_mul]
 rw [h3] at hn;exact (Nat.pow_lt_pow_iff_right (a:=2) (by decide)).1 (by omega)
theorem wh {n m:Nat} {cs:List Nat} (h:n=dS 1000000000 cs+1000000000^cs.length*m):n=dS 1000000000 (cs++[m % 1000000000])+1000000000^(cs++[m % 1000000000]).length*(m / 1000000000):=by
 rw [jW,List.length_append,List.length_singleton,Nat.pow_succ,h,Nat.mul_assoc,Nat.add_assoc,<- Nat.mul_add];congr 2
 omega
def nY (cs:List Nat) (k:Nat):List UInt8:=if k=cs.length then [] else lk cs k
theorem lP {T e:TypeId} {B b:Nat} {bs:List Value} {w w':World} (h:Lib.IsBuilder T e B b bs w) (hg:w.grownBy w' none):Lib.IsBuilder T e B b bs w':=by
 have key:∀ p,Lib.BuilderAt T e B b p bs w->Lib.BuilderAt T e B b p bs w':=by
  intro p hp;have hlt:=hp.lt;obtain ⟨hB,v,hb,ho,hne⟩:=hp;exact ⟨hB,v,by rw [hg.block b hlt (by simp)];exact hb,World.ownsRow.kept ho hg (by cases hv:v.ownBlock<;>simp),hne⟩
 rcases h with h | h
 ·exact .inl (key _ h)
 ·exact .inr (key _ h)
theorem rJ (l:List UInt8):Lib.strCells ⟨l.toArray⟩=Lib.byteCells l:=by
 unfold Lib.strCells Lib.byteCells;simp
theorem CI (c:Nat):Lib.repeatL [48] c=List.replicate c 48:=by
 induction c with
 | zero=>rfl
 | succ c ih=>rw [Lib.repeatL,ih,List.replicate_succ];rfl
def WrtR (W:World) (cs:List Nat) (iv:Value) (wr:World):Prop :=
 ∃ k:Nat,k<=cs.length/\iv=.int .i64 ((k:Int)-1)/\Lib.IsBuilder 160 5 W.heap.size W.heap.size (Lib.byteCells (nY cs k)) wr/\Below W.heap.size W wr/\W.heap.size<=wr.heap.size
theorem txt_len (cs:List Nat) (k:Nat) (hc:∀ c∈cs,c<1000000000) (hk:k<=cs.length) (ht:AT cs):(nY cs k).length<=9*(cs.length-k):=by
 have key:∀ d k,d=cs.length-k->k<=cs.length->(nY cs k).length<=9*d:=by
  intro d;induction d with
  | zero =>
   intro k h1 h2;have:k=cs.length:=by omega
   rw [nY,if_pos this];simp
  | succ d ih =>
   intro k h1 h2;have hk:k<cs.length:=by omega
   have hcc:=hc cs[k] (List.getElem_mem hk);have h9:(Lib.decDigits cs[k]).length<=9:=lu (by decide) hcc;rw [nY,if_neg (by omega)];by_cases hl:k+1=cs.length
   ·rw [nt cs k hl];omega
   ·have h2:=ih (k+1) (by omega) (by omega);rw [nY,if_neg hl] at h2;rw [nu cs k (by omega) hcc (ht.pos (k+1) (by omega))];simp;omega
 exact key _ k rfl hk
theorem sQ (v:Value) (n L:Nat) (w:World) (h:aU w v n L) (hL:L<=100000000000) (ht:eY w) :
  Calls Tryz.prog 82 #[v] w fun e w'=>e=.returned (.string ⟨(Lib.decDigits n).toArray⟩)/\w.grownBy w' none:=by
 obtain ⟨vo,vl,vc,rfl,hvl,hvc1,hvc2⟩:=h.shape;have HT:=ab ht;have HN:=ab h;have HLT:=ab (kG h);unfold maxLen at hvc2;clear ht h;by_cases h0:n=0
 ·obtain rfl:vl=0:=hvl.2 h0;subst h0;clear hvl;go_enter Tryz.func82,Tryz.ntmps82
  go_wp2;go_ret;refine ⟨?_,ae _ _⟩;rw [Lib.decDigits_one (by decide)];rfl
 ·have hvl0:0<vl:=by
   rcases Nat.eq_zero_or_pos vl with e | e
   ·exact absurd (hvl.1 e) h0
   ·exact e
  have hvl1:((vl:Int)==0)=false:=by simp;omega
  clear hvl;obtain ⟨xs,x1,x2,x3,x4⟩:=HN.out;have X1:=ab x1;have X2:=ab x2;have X3:=ab x3;clear x1 x2 x3;go_enter Tryz.func82,Tryz.ntmps82
  go_wp2_with fail;refine (jh _ xs _ X1.out (by omega)).mono ?_;rintro e w1 ⟨lv,rfl,l1,l2⟩;obtain ⟨lo,lc,rfl,hlc1,hlc2,_⟩:=l1.open;unfold maxLen at hlc2;have L1:Hid (gN w1 w.heap.size (.slice lo xs.length lc) n L):=⟨xs,l1,X1.out.sm,X2.out,X3.out,x4⟩;have LB:=ab (fun k hk=>(l1.fresh k hk).2);have L2:=ab l2;clear l1 l2;go_wp2;go_loopg [3,4] n (fun k cv lv wr=>Hid (ChkR w w1.heap.size n L k cv lv wr))
  case atStart=>exact ⟨n,[],oh _ _,Nat.le_refl _,L1.out,LB.out,by simp,by simp [dS],.inl h0,L2.out,rfl⟩
  case round =>
   obtain ⟨m,cs,r1,r2,r3,r4,r5,r6,r7,r8,rfl⟩:=hrel.out;obtain ⟨co,cc,rfl,hcc1,hcc2,_⟩:=r1.open;unfold maxLen at hcc2;obtain ⟨lo2,ll2,lc2,rfl,hl2,hlc3,hlc4⟩:=r3.num.shape;unfold maxLen at hlc4;have R1:=ab r1;have R3:=ab r3;have R4:=ab r4;have R5:=ab r5;have R6:=ab r6;have R7:=ab r7;have R8:=ab r8;clear r1 r3 r4 r5 r6 r7 r8 hrel;by_cases hm:m=0
   ·obtain rfl:ll2=0:=hl2.2 hm;subst hm;clear hl2;have TOP:AT cs:=by
     rcases R7.out with h | h
     ·exact absurd rfl h
     ·exact h
    have HTOP:=ab TOP;have hcl:0<cs.length:=by obtain ⟨F,c,e,_⟩:=TOP;rw [e];simp
    have hcn:Hid (dS 1000000000 cs=n):=by have:=R6.out;show _=_;omega
    have hcl2:cs.length<=32*L+1:=by
     obtain ⟨F,c,e,hc⟩:=TOP;have h1:=hcn.out;rw [e,jW] at h1;have:=qS (cs:=F) (m:=c) h1.symm hc HLT.out;rw [e];simp;omega
    clear TOP;obtain ⟨W,rfl⟩:∃ W,W=wr:=⟨wr,rfl⟩;obtain ⟨g,rfl,hgB,hgl⟩:∃ g,co=some ⟨g,0,none⟩/\w1.heap.size<=g/\g<W.heap.size:=by
     obtain ⟨ao,cap,e,_,_,hh⟩:=R1.out.open;simp only [Value.slice.injEq,true_and] at e;obtain ⟨rfl,rfl⟩:=e;rcases hh with h | h
     ·subst h;rcases R1.out.2 with ⟨_,e2⟩ | ⟨g,cap',cur,e2,_⟩
      ·omega
      ·simp at e2
     ·exact h
    have TW:Hid (eY W):=HT.out.keep0 R8.out;go_wp2;go_loopw [7] (fun iv w5=>Hid (WrtR W cs iv w5)) (fun iv _=>(intOf iv+1).toNat)
    case atStart =>
     refine ⟨cs.length,Nat.le_refl _,by go_num,.inl ⟨Nat.le_refl _,.slice none 0 0,heap_alloc_new W _,?_,by simp [Value.ownBlock]⟩,tX (ag (ae _ _) _),by simp⟩;rw [nY,if_pos rfl];exact World.ownsRow_nil _ _ _ _
    case round =>
     obtain ⟨k,hk,rfl,b1,b2,b3⟩:=hrel.out;have B1:=ab b1;have B2:=ab b2;clear b1 b2 hrel;by_cases hk0:k=0
     ·subst hk0;have hB0:=B1.out;rw [nY,if_neg (by omega),lk,List.drop_zero,hcn.out] at hB0;have HB0:=ab hB0;clear hB0;go_wp2_with fail;refine (Tryz.Builder_String W.heap.size W.heap.size (Lib.decDigits n) _ HB0.out (fun e=>by
       have h1:=Lib.decDigits_length n;have h2:=Lib.nDigits_pos n;rw [e] at h1;simp at h1;omega)).mono ?_
      rintro e w6 ⟨rfl,b6⟩;have G6:=ab (aa R8.out (ji ⟨b6.os.trans B2.out.os,b6.tape.trans B2.out.tape,b6.output.trans B2.out.output,Nat.le_trans B2.out.size b6.size,fun k hk=>(b6.block k hk).trans (B2.out.block k hk)⟩));clear b6;go_wp2;go_ret;exact ⟨rfl,G6.out⟩
     ·obtain ⟨j,rfl⟩:∃ j,k=j+1:=⟨k-1,by omega⟩;have ej:(((j+1:Nat):Int)-1)=(j:Int):=by omega
      rw [ej];clear ej hk0;have hjl:j<cs.length:=by omega
      have hcc:=R5.out cs[j] (List.getElem_mem hjl);have hcell0:=(R1.out.at j hjl).1;have hcell:wr.cell? ⟨g,j,none⟩=some (.int .u32 (cs[j]:Nat)):=(World.cell?_of_block (a:=⟨g,j,none⟩) (B2.out.block g hgl)).trans hcell0;obtain ⟨c,hcj⟩:∃ c,c=cs[j]:=⟨_,rfl⟩;rw [<- hcj] at hcell hcc;have HCJ:=ab hcj;have T5:Hid (eY wr):=TW.out.keep0 (ji B2.out);have h9:(Lib.decDigits c).length<=9:=lu (by decide) hcc;have hpos:=Lib.nDigits_pos c;rw [<- Lib.decDigits_length] at hpos;have htl:=txt_len cs (j+1) R5.out hk HTOP.out;clear hcell0 hcj;go_wp2_with fail;refine (qB c _ (by omega) T5.out).mono ?_;rintro e w6 ⟨rfl,g6⟩;obtain ⟨D,hD⟩:∃ D:ByteArray,D=⟨(Lib.decDigits c).toArray⟩:=⟨_,rfl⟩;rw [<- hD];have hDs:D.size=(Lib.decDigits c).length:=by rw [hD];rfl
      have hD9:D.size<=9:=by omega
      have hcells:Hid (Lib.strCells D=Lib.byteCells (Lib.decDigits c)):=by rw [hD];exact rJ _
      have B6:=ab (lP B1.out g6);have W6:Hid (Below W.heap.size W w6):=⟨g6.os.trans B2.out.os,g6.tape.trans B2.out.tape,g6.output.trans B2.out.output,Nat.le_trans B2.out.size g6.size,fun k hk=>(g6.block k (by omega) (by simp)).trans (B2.out.block k hk)⟩;have hs6:W.heap.size<=w6.heap.size:=W6.out.size;have HDS:=ab hDs;clear g6 hD hDs hcell T5 B1 B2;by_cases htop:j+1=cs.length
      ·go_wp2_with fail;refine (gZ W.heap.size W.heap.size _ D _ B6.out (by rw [Lib.byteCells_length];omega) hs6).mono ?_;rintro e w7 ⟨rfl,c7,d7⟩;have C7:=ab c7;have D7:=ab d7;have hs7:W.heap.size<=w7.heap.size:=Nat.le_trans hs6 d7.size;clear c7 d7;go_wp2;go_roundw
       case rel =>
        refine ⟨j,by omega,by go_num,.inr ?_,⟨D7.out.os.trans W6.out.os,D7.out.tape.trans W6.out.tape,D7.out.output.trans W6.out.output,Nat.le_trans W6.out.size D7.out.size,fun k hk=>(D7.out.block k hk).trans (W6.out.block k hk)⟩,hs7⟩;have h7:=C7.out;rw [hcells.out,nY,if_pos htop] at h7;rw [nY,if_neg (by omega),nt cs j htop,<- HCJ.out];exact h7
       case measure=>simp [intOf]
      ·have hj2:(j:Int)<(cs.length:Int)-1:=by omega
       have hnz:(9-(D.size:Int))=((9-D.size:Nat):Int):=by omega
       go_wp2_with fail;refine (Tryz.strings_Repeat ⟨#[48]⟩ (9-D.size) _ (by omega) (by have:(⟨#[48]⟩:ByteArray).size=1:=rfl;rw [this];omega)).mono ?_;rintro e w7 ⟨rfl,d7⟩;rw [show (⟨#[48]⟩:ByteArray).data.toList=[48] from rfl,CI];obtain ⟨Z,hZ⟩:∃ Z:ByteArray,Z=⟨(List.replicate (9-D.size) 48).toArray⟩:=⟨_,rfl⟩;rw [<- hZ];have hZs:Z.size<=9:=by rw [hZ];show (List.replicate (9-D.size) 48).toArray.size<=9;simp
       have hzc:Hid (Lib.strCells Z=Lib.byteCells (List.replicate (9-D.size) 48)):=by rw [hZ];exact rJ _
       have B7:=ab (lP B6.out (ji d7));have W7:Hid (Below W.heap.size W w7):=⟨d7.os.trans W6.out.os,d7.tape.trans W6.out.tape,d7.output.trans W6.out.output,Nat.le_trans W6.out.size d7.size,fun k hk=>(d7.block k (by omega)).trans (W6.out.block k hk)⟩;have hs7:W.heap.size<=w7.heap.size:=W7.out.size;clear d7 hZ W6 B6 hnz;go_wp2_with fail;refine (gZ W.heap.size W.heap.size _ Z _ B7.out (by rw [Lib.byteCells_length];omega) hs7).mono ?_;rintro e w8 ⟨rfl,c8,d8⟩;have C8:=ab c8;have W8:Hid (Below W.heap.size W w8):=⟨d8.os.trans W7.out.os,d8.tape.trans W7.out.tape,d8.output.trans W7.out.output,Nat.le_trans W7.out.size d8.size,fun k hk=>(d8.block k hk).trans (W7.out.block k hk)⟩;have hs8:W.heap.size<=w8.heap.size:=W8.out.size;clear c8 d8;go_wp2_with fail;refine (gZ W.heap.size W.heap.size _ D _ (.inr C8.out) (by rw [List.length_append,Lib.byteCells_length,Lib.strCells_length];omega) hs8).mono ?_;rintro e w9 ⟨rfl,c9,d9⟩;have C9:=ab c9;have W9:Hid (Below W.heap.size W w9):=⟨d9.os.trans W8.out.os,d9.tape.trans W8.out.tape,d9.output.trans W8.out.output,Nat.le_trans W8.out.size d9.size,fun k hk=>(d9.block k hk).trans (W8.out.block k hk)⟩;clear c9 d9;go_wp2;go_roundw
       case rel =>
        refine ⟨j,by omega,by go_num,.inr ?_,W9.out,W9.out.size⟩;have h9:=C9.out;rw [hcells.out,hzc.out,nY,if_neg htop] at h9;rw [nY,if_neg (by omega),nu cs j (by omega) (by rw [<- HCJ.out];exact hcc) (HTOP.out.pos (j+1) (by omega)),<- HCJ.out,<- HDS.out];rw [show ∀ a b c:List UInt8,Lib.byteCells (a++(b++c))=(Lib.byteCells a++Lib.byteCells b)++Lib.byteCells c from fun a b c=>by simp [Lib.byteCells]];exact h9
       case measure=>simp [intOf]
   ·have hl3:0<ll2:=by
     rcases Nat.eq_zero_or_pos ll2 with e | e
     ·exact absurd (hl2.1 e) hm
     ·exact e
    clear hl2;have hcsl:=qS R6.out hm HLT.out;obtain ⟨ys,y1,y2,y3,y4,y5⟩:=R3.out;go_wp2_with fail;refine (pQ _ ys 1000000000 _ w.heap.size y1 y2 (by omega) (by omega) (by omega)).mono ?_;rintro e w2 ⟨q',r,rfl,hr,s1⟩;rw [y4] at hr;obtain ⟨zs,z1,z2,z3,z4,z5,z6,z7⟩:=s1;rw [y4] at z4;obtain ⟨qo,qc,rfl,_,_,_⟩:=z1.open;have hrb:r<1000000000:=by rw [hr];exact Nat.mod_lt _ (by decide)
    have G2:Hid (w.grownBy w2 none):=xT R8.out z6 (fun b e=>(y1.fresh b e).1);have C2:Hid (gB w2 w1.heap.size (.slice co cs.length cc) cs):=R1.out.keep z6 (fun k e h2=>by
     have h3:=R4.out k e;have h4:=(R1.out.fresh k h2).1;omega)
    have Z1:Hid (gN w2 w.heap.size (.slice qo zs.length qc) (m / 1000000000) L):=⟨zs,z1,z2,z3,z4,by omega⟩;have ZB:Hid (∀ k,az (.slice qo zs.length qc)=some k->k<w1.heap.size):=fun k hk=>R4.out k (by rw [<- z7];exact hk)
    have HS2:w1.heap.size<=w2.heap.size:=Nat.le_trans r2 z6.size;have HR:=ab hr;clear y1 y2 y3 y4 y5 hr z1 z2 z3 z4 z5 z6 z7 R1 R3 R4;have hown:=C2.out.alloc (Obj.cells #[Value.int IntKind.u32 (r:Int)] 140);have hcell:(w2.alloc (Obj.cells #[Value.int IntKind.u32 (r:Int)] 140)).cell? ⟨w2.heap.size,0,none⟩=some (.int .u32 (r:Int)):=by simp
    have hbs:w1.heap.size<=(w2.alloc (Obj.cells #[Value.int IntKind.u32 (r:Int)] 140)).heap.size:=by simp;omega
    have HC:=ab hcell;have HO:=ab hown;have HBS:=ab hbs;clear hcell hown hbs;go_wp2_with (at_builtin;refine lI _ rfl _ _ rfl w1.heap.size _ cs rfl w2.heap.size _ r rfl rfl HC.out HO.out (by omega) HBS.out ?_)
    intro cv' w3 o1 o2;obtain ⟨co3,cc3,rfl,_,_,_⟩:=o1.open;have O1:=ab o1;have O2:=ab o2;clear o1 o2;go_wp2;go_roundg (m / 1000000000)
    case measure=>omega
    case rel =>
     refine ⟨m / 1000000000,cs++[r],O1.out,Nat.le_trans HBS.out O2.out.size,?_,ZB.out,?_,?_,?_,?_,rfl⟩
     ·obtain ⟨zs',a1,a2,a3,a4,a5⟩:=Z1.out.keep0 (ag (ae _ _) (Obj.cells #[Value.int IntKind.u32 (r:Int)] 140));refine ⟨zs',a1.keep O2.out ?_,a2,a3,a4,a5⟩;intro k e h2;have h3:=ZB.out k h2;have h4:=(C2.out.fresh k e).1;omega
     ·intro c hc;rcases List.mem_append.1 hc with hc | hc
      ·exact R5.out c hc
      ·simp at hc;omega
     ·rw [HR.out];exact wh R6.out
     ·by_cases h9:m / 1000000000=0
      ·right
       refine ⟨cs,r,rfl,?_⟩;have:=HR.out;omega
      ·exact .inl h9
     ·exact xT (aa G2.out (ag (ae _ _) _)) O2.out (fun b e=>by have:=(C2.out.fresh b e).1;have:=L2.out.size;omega)
end Go.Proofs.YthblidglcppakaaGreatDoor
namespace Go.Proofs.YthblidglcppakaaGreatDoor
open Go.RowKit
def cP (q:Rat):List UInt8:=(if rB q then [45] else [])++(Lib.decDigits (rN q)++(if q.den=1 then [] else 47 :: Lib.decDigits q.den))
end Go.Proofs.YthblidglcppakaaGreatDoor
namespace Go.Proofs.YthblidglcppakaaGreatDoor
open Go.RowKit
theorem FQ.parts {w:World} {u d:Value} {q:Rat} {L:Nat} (h:FQ w (.agg #[.bool (rB q),u,d]) q L):aU w u (rN q) L/\((d=.slice none 0 0/\q.den=1)∨(aU w d q.den L/\1<q.den)):=by
 obtain ⟨up,down,e,h1,h2,_⟩:=h;simp only [Value.agg.injEq,Array.mk.injEq,List.cons.injEq,and_true,true_and] at e;obtain ⟨rfl,rfl⟩:=e;exact ⟨h1,h2⟩
theorem mL {n L:Nat} (hL:L<=100000000000) (h:n<4294967296^L):(Lib.decDigits n).length<=1000000000001:=by
 rw [Lib.decDigits_length];rcases Nat.eq_zero_or_pos L with e | e
 ·subst e;have:n=0:=by simpa using h
  subst this;rw [Lib.nDigits_small (by decide)];omega
 ·have:Lib.nDigits n<=10*L:=by
   refine pt (by omega) (Nat.lt_of_lt_of_le h ?_);rw [Nat.pow_mul];exact Nat.pow_le_pow_left (by decide) L
  omega
theorem Bx (x:Value) (q:Rat) (L:Nat) (w:World) (hx:FQ w x q L) (hL:L<=100000000000) (ht:eY w) :
  Calls Tryz.prog 45 #[x] w fun e w'=>e=.returned (.string ⟨(cP q).toArray⟩)/\w.grownBy w' none:=by
 obtain ⟨uo,ul,uc,do_,dl,dc,rfl⟩:=hx.shape;obtain ⟨hu,hd⟩:=hx.parts;have HU:=ab hu;have HD:=ab hd;have HT:=ab ht;obtain ⟨W,hW⟩:∃ W,W=w.alloc (Obj.cells #[.bool (rB q),.slice uo ul uc,.slice do_ dl dc] 91):=⟨_,rfl⟩;have GW:Hid (w.grownBy W none):=by rw [hW];exact ag (ae _ _) _
 have CELLS:Hid (∀ wx,W.grownBy wx none->wx.cell? ⟨w.heap.size,0,none⟩=some (.bool (rB q))/\wx.cell? ⟨w.heap.size,1,none⟩=some (.slice uo ul uc)/\wx.cell? ⟨w.heap.size,2,none⟩=some (.slice do_ dl dc)):=by
  intro wx hg;rw [hW] at hg;exact aJ hg
 obtain ⟨s0,s1,s2⟩:=CELLS.out W (ae _ _);have hl1:=mL hL (kG hu);obtain ⟨D1,hD1⟩:∃ l,l=Lib.decDigits (rN q):=⟨_,rfl⟩;have HD1:=ab hD1;rw [<- hD1] at hl1;have hDd:Hid (dl=0↔q.den=1):=by
  rcases hd with ⟨e,h1⟩ | ⟨h1,h2⟩
  ·simp only [Value.slice.injEq] at e;exact ⟨fun _=>h1,fun _=>e.2.1⟩
  ·obtain ⟨o,l,c,e,hl,_⟩:=h1.shape;simp only [Value.slice.injEq] at e;obtain ⟨rfl,rfl,rfl⟩:=e;exact ⟨fun e=>by have:=hl.1 e;omega,fun e=>by omega⟩
 have hdc:dl<=9223372036854775807:=by
  rcases hd with ⟨e,h1⟩ | ⟨h1,h2⟩
  ·simp only [Value.slice.injEq] at e;omega
  ·obtain ⟨o,l,c,e,_,hl1,hl2⟩:=h1.shape;simp only [Value.slice.injEq] at e;obtain ⟨rfl,rfl,rfl⟩:=e;unfold maxLen at hl2;omega
 clear hx hu hd ht hD1;go_enter Tryz.func45,Tryz.ntmps45
 go_wp2_with fail;rw [<- hW];refine (sQ _ _ L W (HU.out.keep0 GW.out) hL (HT.out.keep0 GW.out)).mono ?_;rintro e w2 ⟨rfl,g2⟩;rw [<- HD1.out];obtain ⟨a0,a1,a2⟩:=CELLS.out w2 g2;have G2:=ab g2;clear s0 s1 s2 g2 hW;by_cases hb:rB q=true
 ·rw [hb] at a0;have HB:=ab hb;clear hb;by_cases hden:q.den=1
  ·obtain rfl:dl=0:=hDd.out.2 hden;have HQ:Hid (cP q=[45]++D1):=by
    show _=_
    rw [cP,HB.out,if_pos hden,HD1.out];simp
   clear hDd;go_wp2;go_ret;rw [HQ.out];exact ⟨rfl,aa GW.out G2.out⟩
  ·have hdl:0<dl:=by
    rcases Nat.eq_zero_or_pos dl with e | e
    ·exact absurd (hDd.out.1 e) hden
    ·exact e
   have HN:Hid (aU w (.slice do_ dl dc) q.den L):=by
    rcases HD.out with ⟨e,h⟩ | ⟨h,_⟩
    ·exact absurd h hden
    ·exact h
   have hl2:=mL hL (kG HN.out);clear hDd;go_wp2_with fail;refine (sQ _ _ L w2 ((HN.out.keep0 GW.out).keep0 G2.out) hL ((HT.out.keep0 GW.out).keep0 G2.out)).mono ?_;rintro e w3 ⟨rfl,g3⟩;have G3:=ab g3;obtain ⟨D2,hD2⟩:∃ l,l=Lib.decDigits q.den:=⟨_,rfl⟩;rw [<- hD2] at hl2 ⊢;have HQ:Hid (cP q=[45]++D1++([47]++D2)):=by
    show _=_
    rw [cP,HB.out,if_neg hden,HD1.out,hD2];simp
   clear g3 hD2;go_wp2;go_ret;rw [HQ.out];exact ⟨rfl,aa GW.out (aa G2.out G3.out)⟩
 ·have hb':rB q=false:=by simpa using hb
  rw [hb'] at a0;have HB:=ab hb';clear hb hb';by_cases hden:q.den=1
  ·obtain rfl:dl=0:=hDd.out.2 hden;have HQ:Hid (cP q=D1):=by
    show _=_
    rw [cP,HB.out,if_pos hden,HD1.out];simp
   clear hDd;go_wp2;go_ret;rw [HQ.out];exact ⟨rfl,aa GW.out G2.out⟩
  ·have hdl:0<dl:=by
    rcases Nat.eq_zero_or_pos dl with e | e
    ·exact absurd (hDd.out.1 e) hden
    ·exact e
   have HN:Hid (aU w (.slice do_ dl dc) q.den L):=by
    rcases HD.out with ⟨e,h⟩ | ⟨h,_⟩
    ·exact absurd h hden
    ·exact h
   have hl2:=mL hL (kG HN.out);clear hDd;go_wp2_with fail;refine (sQ _ _ L w2 ((HN.out.keep0 GW.out).keep0 G2.out) hL ((HT.out.keep0 GW.out).keep0 G2.out)).mono ?_;rintro e w3 ⟨rfl,g3⟩;have G3:=ab g3;obtain ⟨D2,hD2⟩:∃ l,l=Lib.decDigits q.den:=⟨_,rfl⟩;rw [<- hD2] at hl2 ⊢;have HQ:Hid (cP q=D1++([47]++D2)):=by
    show _=_
    rw [cP,HB.out,if_neg hden,HD1.out,hD2];simp
   clear g3 hD2;go_wp2;go_ret;rw [HQ.out];exact ⟨rfl,aa GW.out (aa G2.out G3.out)⟩
end Go.Proofs.YthblidglcppakaaGreatDoor
namespace Go.Proofs.YthblidglcppakaaGreatDoor
open Go.RowKit Go.Lib
theorem kD {k:Nat} (h:k<10):kS (UInt8.ofNat (48+k))=true/\(UInt8.ofNat (48+k)).toNat-48=k:=by
 have e:(UInt8.ofNat (48+k)).toNat=48+k:=by rw [UInt8.toNat_ofNat'];omega
 unfold kS;rw [e];constructor
 ·simp;omega
 ·omega
theorem sb (n:Nat):∀ c∈decDigits n,kS c=true:=by
 induction n using Nat.strongRecOn with
 | _ n ih =>
  intro c hc;rw [decDigits] at hc;split at hc
  ·rename_i h;simp only [List.mem_singleton] at hc;subst hc;exact (kD h).1
  ·rename_i h;rcases List.mem_append.1 hc with hc | hc
   ·exact ih (n / 10) (by omega) c hc
   ·simp only [List.mem_singleton] at hc;subst hc;exact (kD (Nat.mod_lt _ (by decide))).1
theorem qW (l:List UInt8) (c:UInt8):aZ (l++[c])=aZ l*10+(c.toNat-48):=by
 unfold aZ;rw [List.foldl_append];rfl
theorem oS (n:Nat):aZ (decDigits n)=n:=by
 induction n using Nat.strongRecOn with
 | _ n ih =>
  rw [decDigits];split
  ·rename_i h;have:=qW [] (UInt8.ofNat (48+n));rw [List.nil_append] at this;rw [this,(kD h).2];simp [aZ]
  ·rename_i h;rw [qW,ih (n / 10) (by omega),(kD (Nat.mod_lt _ (by decide))).2];omega
theorem Bl (n:Nat):decDigits n≠[]:=by
 rw [decDigits];split<;>simp
theorem oT (n:Nat):bU (decDigits n)=true:=by
 unfold bU;have h1:(decDigits n).isEmpty=false:=by
  cases h:decDigits n with
  | nil=>exact absurd h (Bl n)
  | cons a l=>rfl
 rw [h1,List.all_eq_true.2 (sb n)];rfl
theorem BP {c d:UInt8} (h:kS c=true) (hd:kS d=false):c≠d:=fun e=>by rw [e,hd] at h;cases h
theorem wL (l:List UInt8) (d:UInt8) (h:∀ c∈l,c≠d):index l [d] = -1:=by
 induction l with
 | nil=>rfl
 | cons a l ih =>
  have h1:([d]:List UInt8).isPrefixOf (a :: l)=false:=by
   have:=h a (List.mem_cons_self ..);simp [List.isPrefixOf];exact fun e=>this e.symm
  unfold index;rw [h1,ih (fun c hc=>h c (List.mem_cons_of_mem _ hc))];rfl
theorem BO (l r:List UInt8) (d:UInt8) (h:∀ c∈l,c≠d):index (l++d :: r) [d]=(l.length:Int):=by
 induction l with
 | nil =>
  unfold index;simp [List.isPrefixOf]
 | cons a l ih =>
  have h1:([d]:List UInt8).isPrefixOf (a :: (l++d :: r))=false:=by
   have:=h a (List.mem_cons_self ..);simp [List.isPrefixOf];exact fun e=>this e.symm
  rw [List.cons_append];unfold index;rw [h1,ih (fun c hc=>h c (List.mem_cons_of_mem _ hc)),if_neg (by simp),if_neg (by simp)];simp
theorem Bi (l:List UInt8) (d:UInt8) (h:∀ c∈l,c≠d):cut l [d]=(l,[],false):=by
 unfold cut;rw [wL l d h];rfl
theorem cut_at (l r:List UInt8) (d:UInt8) (h:∀ c∈l,c≠d):cut (l++d :: r) [d]=(l,r,true):=by
 unfold cut;rw [BO l r d h,if_pos (by omega)];simp
theorem qY (n:Nat):∀ c∈decDigits n,c≠47:=fun c hc=>BP (sb n c hc) (by decide)
theorem xG (b:Bool) (n:Nat) (r:List UInt8):hasPrefix ((if b then [45] else [])++(decDigits n++r)) [45]=b/\trimPrefix ((if b then [45] else [])++(decDigits n++r)) [45]=decDigits n++r:=by
 cases b
 ·have h:hasPrefix (decDigits n++r) [45]=false:=by
   unfold hasPrefix;cases hd:decDigits n with
   | nil=>exact absurd hd (Bl n)
   | cons a l =>
    have h1:kS a=true:=sb n a (by rw [hd];exact List.mem_cons_self ..);have h2:a≠45:=BP h1 (by decide);simp [List.isPrefixOf];exact fun e=>h2 e.symm
  simp only [Bool.false_eq_true,if_false,List.nil_append];refine ⟨h,?_⟩;unfold trimPrefix;rw [h];rfl
 ·have h:hasPrefix (45 :: (decDigits n++r)) [45]=true:=by
   unfold hasPrefix;simp [List.isPrefixOf]
  simp only [if_true,List.singleton_append];refine ⟨h,?_⟩;unfold trimPrefix;rw [h];rfl
theorem Ad (q:Rat):dN (cP q)=q:=by
 unfold dN cP;have hm:=xG (rB q) (rN q) (if q.den=1 then [] else 47 :: decDigits q.den);rw [hm.1,hm.2];have key:mkRat (fO (rB q) (rN q)) q.den=q:=by rw [fN,Rat.mkRat_self]
 by_cases h1:q.den=1
 ·rw [if_pos h1,List.append_nil];unfold ei;rw [Bi _ _ (qY _)];simp only [Bool.false_eq_true,if_false];rw [oT,oS,show bU [49]=true by decide,show aZ [49]=1 by decide];rw [h1] at key;simpa using key
 ·rw [if_neg h1];unfold ei;rw [cut_at _ _ _ (qY _)];simp only [if_true];rw [oT,oT,oS,oS];simpa using key
def yJ (q:Rat) (L:Nat):Prop:=rN q<4294967296^L/\q.den<4294967296^L
theorem FQ.fit {w:World} {v:Value} {q:Rat} {L:Nat} (h:FQ w v q L) (hL:0<L):yJ q L:=by
 obtain ⟨up,down,e,h1,h2,h3,h4⟩:=h;refine ⟨kG h1,?_⟩;rcases h2 with ⟨_,hd⟩ | ⟨hd,_⟩
 ·rw [hd];exact Nat.one_lt_pow (by omega) (by decide)
 ·exact kG hd
theorem xO {n L:Nat} (h:n<4294967296^L) (hL:0<L):(decDigits n).length<=10*L:=by
 refine lu (by omega) (Nat.lt_of_lt_of_le h ?_);rw [Nat.pow_mul];exact Nat.pow_le_pow_left (by decide) L
theorem An {q:Rat} {L:Nat} (h:yJ q L) (hL:0<L):(cP q).length<=20*L+2:=by
 have h1:=xO h.1 hL;have h2:=xO h.2 hL;unfold cP;rw [List.length_append,List.length_append];have h3:(if rB q then ([45]:List UInt8) else []).length<=1:=by split<;>simp
 have h4:(if q.den=1 then ([]:List UInt8) else 47 :: decDigits q.den).length<=10*L+1:=by
  split
  ·simp
  ·rw [List.length_cons];omega
 omega
end Go.Proofs.YthblidglcppakaaGreatDoor
