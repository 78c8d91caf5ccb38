/- Contracts that the proof leans on. -/
import Derived.Test.YtnpfjnkmpbmgeaaGreatDoorXVd
import Derived.Test.YtnpfjnkmpbmgeaaGreatDoorXVAlong
import Derived.Test.YtnpfjnkmpbmgeaaGreatDoorXVCxR
import Derived.Test.YtnpfjnkmpbmgeaaGreatDoorXVf
namespace Go.Proofs.YtnpfjnkmpbmgeaaGreatDoor
open Go.RowKit
set_option linter.unusedVariables false
set_option linter.unusedSimpArgs false
set_option maxHeartbeats 32000000
set_option maxRecDepth 10000
theorem tx_two (c:Int) (x y:Rat):∃ A B:ByteArray,txZ c x y=.agg #[.string A,.string B]/\(c=0->A=⟨(qtext x).toArray⟩/\B=⟨(qtext y).toArray⟩)/\(c≠0->A=⟨#[]⟩/\B=⟨#[]⟩):=by
 unfold txZ;by_cases h:c=0
 ·rw [if_pos h];exact ⟨_,_,rfl,fun _=>⟨rfl,rfl⟩,fun k=>absurd h k⟩
 ·rw [if_neg h];exact ⟨_,_,rfl,fun k=>absurd k h,fun _=>⟨rfl,rfl⟩⟩
theorem lineSays_any (s t u a b:ByteArray) (m:Int) (w:World) (hs:s.size<=1048576) (ht:t.size<=1048576) (hu:u.size<=1048576) (ha:a.size<=1048576) (hb:b.size<=1048576) (hml:w.cell? ⟨0,0,none⟩=some (.int .i64 m)) (htab:Tab10 w) :
  Calls Tryz.prog 3 #[.agg #[.string s,.string t],.string u,.agg #[.string a,.string b]] w fun e w'=>e=.returned (.bool true)/\w.grownBy w' none:=by
 have HM:=hide hml;have HT:=hide htab;clear hml htab;obtain ⟨p,hp⟩:∃ p,p=ofR s.data.toList:=⟨_,rfl⟩;obtain ⟨q,hq⟩:∃ q,q=ofR t.data.toList:=⟨_,rfl⟩;obtain ⟨l,hl⟩:∃ l,l=ofR u.data.toList:=⟨_,rfl⟩;obtain ⟨c,hc⟩:∃ l,l=ofR a.data.toList:=⟨_,rfl⟩;obtain ⟨d,hd⟩:∃ l,l=ofR b.data.toList:=⟨_,rfl⟩;have F1:Hid (FitW 131074 p):=text_fit hp hs;have F2:Hid (FitW 131074 q):=text_fit hq ht;have F3:Hid (FitW 131074 l):=text_fit hl hu;have F4:Hid (FitW 131074 c):=text_fit hc ha;have F5:Hid (FitW 131074 d):=text_fit hd hb;have HP:=hide hp;have HQ:=hide hq;have HL:=hide hl;have HC:=hide hc;have HD:=hide hd;clear hp hq hl hc hd;obtain ⟨W,hW⟩:∃ W,W=((w.alloc (Obj.cells #[.string s,.string t] 24)).alloc (Obj.cells #[.string a,.string b] 24)):=⟨_,rfl⟩;have GW:Hid (w.grownBy W none):=by rw [hW];exact gr_alloc (gr_alloc (gr_refl _ _) _) _
 have BX:Hid (∀ wx,W.grownBy wx none->BoxC wx (w.heap.size) #[.string s,.string t]):=by
  intro wx hg;rw [hW] at hg;have h0:=(boxNew' w #[.string s,.string t] 24 (w.heap.size) (by simp));exact ((h0).keep0 (gr_alloc (gr_refl _ _) _)).keep0 hg
 have BU:Hid (∀ wx,W.grownBy wx none->BoxC wx (w.heap.size+1) #[.string a,.string b]):=by
  intro wx hg;rw [hW] at hg;have h0:=(boxNew' (w.alloc (Obj.cells #[.string s,.string t] 24)) #[.string a,.string b] 24 (w.heap.size+1) (by simp));exact (h0).keep0 hg
 go_enter Tryz.func3,Tryz.ntmps3
 go_wp2_with fail;rw [<- hW];clear hW;refine (echoes_at m W (gr_cell GW.out HM.out) (HT.out.keep0 GW.out)).mono ?_;rintro e w1 ⟨rfl,g1⟩;have GX:=hide g1;clear g1;obtain ⟨x0,x1,xf0,xf1⟩:=(BX.out w1 GX.out).c2;obtain ⟨AR,BR,hABR,hA0R,hA1R⟩:=tx_two (rfC p q l) (rfR p q l) (rfI p q l);obtain ⟨kR,hkR⟩:∃ z,z=rfC p q l:=⟨_,rfl⟩;go_wp2_with fail;refine (Reflect_at s t u p q l m 131074 w1 HP.out HQ.out HL.out (by omega) (by omega) (by omega) F1.out F2.out F3.out (by decide) (gr_cell (gr_none GW.out GX.out) HM.out) (HT.out.keep0 (gr_none GW.out GX.out))).mono ?_;rintro e wa ⟨rfl,ga⟩;rw [hABR,<- hkR];rw [<- hkR] at hA0R hA1R;have HKR:=hide hkR;have HA0:=hide hA0R;have HA1:=hide hA1R;have GA:=hide (gr_none GX.out ga);clear ga hkR hABR hA0R hA1R x0 x1 xf0 xf1;go_upto_region 4 with fail;obtain ⟨WaR,hWaR⟩:∃ wz,wz=(wa.alloc (Obj.cells #[.string AR,.string BR] 24)):=⟨_,rfl⟩;have GWaR:Hid (wa.grownBy WaR none):=by rw [hWaR];exact gr_alloc (gr_refl _ _) _
 have BGR:Hid (∀ wx,WaR.grownBy wx none->BoxC wx wa.heap.size #[.string AR,.string BR]):=by
  intro wx g;rw [hWaR] at g;exact (boxNew wa #[.string AR,.string BR] 24).keep0 g
 rw [<- hWaR];clear hWaR;have GB:=hide (gr_none GA.out GWaR.out);obtain ⟨x0,x1,xf0,xf1⟩:=(BX.out WaR GB.out).c2;go_cut [9,10] (fun sb sc wx=>Hid (∃ bb,WaR.heap.size<=bb/\sb=.pointer (some ⟨bb,0,none⟩)/\sc=.int .i64 kR/\WaR.grownBy wx none/\BoxC wx bb #[.string AR,.string BR]))
 case first =>
  go_wp2_with fail;refine (cxOf_at s t p q m 131074 WaR HP.out HQ.out (by omega) (by omega) F1.out F2.out (gr_cell (gr_none GW.out GB.out) HM.out)).mono ?_;rintro e wb ⟨b1,b2,rfl,p1,p2,gb⟩;have Q1:=hide p1;have Q2:=hide p2;have GC:=hide gb;clear p1 p2 gb;go_wp2_with fail;refine (rOfV_at u l m 131074 wb HL.out (by omega) F3.out (gr_cell (gr_none (gr_none GW.out GB.out) GC.out) HM.out)).mono ?_;rintro e wc2 ⟨b3,rfl,p3,gc⟩;have Q3:=hide p3;have R1:=hide (Q1.out.keep0 gc);have R2:=hide (Q2.out.keep0 gc);have GD:=hide (gr_none GC.out gc);clear p3 gc Q1 Q2;go_wp2_with fail;refine (cxReflect_at b1 b2 b3 p q l 131074 wc2 R1.out R2.out Q3.out (by decide) (by decide)).mono ?_;rintro e wd hd2;by_cases hz:kR=0
  ·obtain ⟨c1,c2,rfl,r1,r2,gd⟩:=hd2.good (HKR.out.symm.trans hz);have S1:=hide r1;have S2:=hide r2;have GE:=hide (gr_none GD.out gd);have HAZ:=hide (HA0.out hz);have HZ:=hide hz;clear r1 r2 gd hd2 hz;go_wp2_with fail;refine (say_ok c1 c2 _ _ _ wd S1.out S2.out (by decide)).mono ?_;rintro e we ⟨rfl,ge⟩;rw [<- HAZ.out.1,<- HAZ.out.2];have GF:=hide (gr_none GE.out ge);clear ge;go_wp2;go_meet
   exact ⟨_,GF.out.size,rfl,by rw [HZ.out],gr_alloc GF.out _,boxNew _ _ _⟩
  ·obtain ⟨rfl,gd⟩:=hd2.ill (fun e=>hz (HKR.out.trans e));have GE:=hide (gr_none GD.out gd);have hAz:=HA1.out hz;rw [<- HKR.out];clear gd hd2;go_wp2_with fail;refine (say_bad kR wd hz).mono ?_;rintro e we ⟨rfl,ge⟩;have GF:=hide (gr_none GE.out ge);clear ge;go_wp2;go_meet
   exact ⟨_,GF.out.size,rfl,rfl,gr_alloc GF.out _,by rw [hAz.1,hAz.2];exact boxNew _ _ _⟩
 case rest =>
  obtain ⟨bbR,hbb,rfl,rfl,gc,bc⟩:=hcut.out;obtain ⟨wR,hren⟩:∃ x,x=wc:=⟨_,rfl⟩;obtain rfl:=hren;replace GX:=hide (gr_none GB.out gc);have BGx:=hide ((BGR.out _ gc));have BBx:=hide bc;obtain ⟨g0,g1,gf0,gf1⟩:=BGx.out.c2;obtain ⟨h0,h1,hf0,hf1⟩:=BBx.out.c2;clear hcut gc bc HA0 HA1 GA GB x0 x1 xf0 xf1;go_upto_region 7 with fail;clear BGx BBx g0 g1 gf0 gf1 h0 h1 hf0 hf1;obtain ⟨x0,x1,xf0,xf1⟩:=(BX.out wR GX.out).c2;obtain ⟨AE,BE,hABE,hA0E,hA1E⟩:=tx_two (enC p q l) (enR p q l) (enI p q l);obtain ⟨kE,hkE⟩:∃ z,z=enC p q l:=⟨_,rfl⟩;go_wp2_with fail;refine (Ends_at s t u p q l m 131074 wR HP.out HQ.out HL.out (by omega) (by omega) (by omega) F1.out F2.out F3.out (by decide) (gr_cell (gr_none GW.out GX.out) HM.out) (HT.out.keep0 (gr_none GW.out GX.out))).mono ?_;rintro e wa ⟨rfl,ga⟩;rw [hABE,<- hkE];rw [<- hkE] at hA0E hA1E;have HKE:=hide hkE;have HA0:=hide hA0E;have HA1:=hide hA1E;have GA:=hide (gr_none GX.out ga);clear ga hkE hABE hA0E hA1E x0 x1 xf0 xf1;go_upto_region 8 with fail;obtain ⟨WaE,hWaE⟩:∃ wz,wz=(wa.alloc (Obj.cells #[.string AE,.string BE] 24)):=⟨_,rfl⟩;have GWaE:Hid (wa.grownBy WaE none):=by rw [hWaE];exact gr_alloc (gr_refl _ _) _
  have BGE:Hid (∀ wx,WaE.grownBy wx none->BoxC wx wa.heap.size #[.string AE,.string BE]):=by
   intro wx g;rw [hWaE] at g;exact (boxNew wa #[.string AE,.string BE] 24).keep0 g
  rw [<- hWaE];clear hWaE;have GB:=hide (gr_none GA.out GWaE.out);obtain ⟨x0,x1,xf0,xf1⟩:=(BX.out WaE GB.out).c2;go_cut [12,10] (fun sb sc wx=>Hid (∃ bb,WaE.heap.size<=bb/\sb=.pointer (some ⟨bb,0,none⟩)/\sc=.int .i64 kE/\WaE.grownBy wx none/\BoxC wx bb #[.string AE,.string BE]))
  case first =>
   go_wp2_with fail;refine (cxOf_at s t p q m 131074 WaE HP.out HQ.out (by omega) (by omega) F1.out F2.out (gr_cell (gr_none GW.out GB.out) HM.out)).mono ?_;rintro e wb ⟨b1,b2,rfl,p1,p2,gb⟩;have Q1:=hide p1;have Q2:=hide p2;have GC:=hide gb;clear p1 p2 gb;go_wp2_with fail;refine (rOfV_at u l m 131074 wb HL.out (by omega) F3.out (gr_cell (gr_none (gr_none GW.out GB.out) GC.out) HM.out)).mono ?_;rintro e wc2 ⟨b3,rfl,p3,gc⟩;have Q3:=hide p3;have R1:=hide (Q1.out.keep0 gc);have R2:=hide (Q2.out.keep0 gc);have GD:=hide (gr_none GC.out gc);clear p3 gc Q1 Q2;go_wp2_with fail;refine (cxEnds_at b1 b2 b3 p q l 131074 wc2 R1.out R2.out Q3.out (by decide) (by decide)).mono ?_;rintro e wd hd2;by_cases hz:kE=0
   ·obtain ⟨c1,c2,rfl,r1,r2,gd⟩:=hd2.good (HKE.out.symm.trans hz);have S1:=hide r1;have S2:=hide r2;have GE:=hide (gr_none GD.out gd);have HAZ:=hide (HA0.out hz);have HZ:=hide hz;clear r1 r2 gd hd2 hz;go_wp2_with fail;refine (say_ok c1 c2 _ _ _ wd S1.out S2.out (by decide)).mono ?_;rintro e we ⟨rfl,ge⟩;rw [<- HAZ.out.1,<- HAZ.out.2];have GF:=hide (gr_none GE.out ge);clear ge;go_wp2;go_meet
    exact ⟨_,GF.out.size,rfl,by rw [HZ.out],gr_alloc GF.out _,boxNew _ _ _⟩
   ·obtain ⟨rfl,gd⟩:=hd2.ill (fun e=>hz (HKE.out.trans e));have GE:=hide (gr_none GD.out gd);have hAz:=HA1.out hz;rw [<- HKE.out];clear gd hd2;go_wp2_with fail;refine (say_bad kE wd hz).mono ?_;rintro e we ⟨rfl,ge⟩;have GF:=hide (gr_none GE.out ge);clear ge;go_wp2;go_meet
    exact ⟨_,GF.out.size,rfl,rfl,gr_alloc GF.out _,by rw [hAz.1,hAz.2];exact boxNew _ _ _⟩
  case rest =>
   obtain ⟨bbE,hbb,rfl,rfl,gc,bc⟩:=hcut.out;obtain ⟨wE,hren⟩:∃ x,x=wc:=⟨_,rfl⟩;obtain rfl:=hren;replace GX:=hide (gr_none GB.out gc);have BGx:=hide ((BGE.out _ gc));have BBx:=hide bc;obtain ⟨g0,g1,gf0,gf1⟩:=BGx.out.c2;obtain ⟨h0,h1,hf0,hf1⟩:=BBx.out.c2;clear hcut gc bc HA0 HA1 GA GB x0 x1 xf0 xf1;go_upto_region 11 with fail;clear BGx BBx g0 g1 gf0 gf1 h0 h1 hf0 hf1;obtain ⟨x0,x1,xf0,xf1⟩:=(BX.out wE GX.out).c2;obtain ⟨y0,y1,yf0,yf1⟩:=(BU.out wE GX.out).c2;obtain ⟨AL,BL,hAB,hA0,hA1⟩:=tx_two (alC p q l c d) (alR p q l c d) (alI p q l c d);obtain ⟨kL,hkL⟩:∃ z,z=alC p q l c d:=⟨_,rfl⟩;go_wp2_with fail;refine (Along_at s t u a b p q l c d m 131074 wE HP.out HQ.out HL.out HC.out HD.out (by omega) (by omega) (by omega) (by omega) (by omega) F1.out F2.out F3.out F4.out F5.out (by decide) (gr_cell (gr_none GW.out GX.out) HM.out) (HT.out.keep0 (gr_none GW.out GX.out))).mono ?_;rintro e wa ⟨rfl,ga⟩;rw [hAB,<- hkL];rw [<- hkL] at hA0 hA1;have HKL:=hide hkL;have HA0:=hide hA0;have HA1:=hide hA1;have GA:=hide (gr_none GX.out ga);clear ga hkL hAB hA0 hA1 x0 x1 xf0 xf1 y0 y1 yf0 yf1;go_upto_region 12 with fail;obtain ⟨WL,hWL⟩:∃ wz,wz=(wa.alloc (Obj.cells #[.string AL,.string BL] 24)):=⟨_,rfl⟩;have GWL:Hid (wa.grownBy WL none):=by rw [hWL];exact gr_alloc (gr_refl _ _) _
   have BGL:Hid (∀ wx,WL.grownBy wx none->BoxC wx wa.heap.size #[.string AL,.string BL]):=by
    intro wx g;rw [hWL] at g;exact (boxNew wa #[.string AL,.string BL] 24).keep0 g
   rw [<- hWL];clear hWL;have GB:=hide (gr_none GA.out GWL.out);obtain ⟨y0,y1,yf0,yf1⟩:=(BU.out WL GB.out).c2;go_wp2_with fail;refine (cxOf_at a b c d m 131074 WL HC.out HD.out (by omega) (by omega) F4.out F5.out (gr_cell (gr_none GW.out GB.out) HM.out)).mono ?_;rintro e wb ⟨b1,b2,rfl,p1,p2,gb⟩;have Q1:=hide p1;have Q2:=hide p2;have GC:=hide gb;clear p1 p2 gb y0 y1 yf0 yf1;go_wp2_with fail;refine (square_at b1 b2 c d 131074 wb Q1.out Q2.out (by decide) (by decide)).mono ?_;rintro e wd ⟨b3,rfl,p3,gd⟩;have Q3:=hide p3;have GD:=hide (gr_none GC.out gd);clear p3 gd;go_wp2_with fail;refine (rN_at 1 wd (by decide) (by decide)).mono ?_;rintro e we ⟨b4,rfl,p4,ge,_⟩;have Q4:=hide p4;have R3:=hide (Q3.out.keep0 ge);have GE:=hide (gr_none GD.out ge);clear p4 ge Q3;go_wp2_with fail;refine (ratCmpX_at b3 b4 (c*c+d*d) ((1:Int):Rat) (4*131074+7) 4 we R3.out.x Q4.out.x (by decide)).mono ?_;rintro e wf ⟨rfl,gf⟩;have GF:=hide (gr_none GE.out gf);clear gf;obtain ⟨oo,hoo⟩:∃ z,z=ordX (c*c+d*d) ((1:Int):Rat):=⟨_,rfl⟩;rw [<- hoo];obtain ⟨g0,g1,gf0,gf1⟩:=(BGL.out wf GF.out).c2;by_cases h1:c*c+d*d=1
   ·have hob:(oo==0)=true:=by rw [hoo,(ordX_zero _ _).2 (show c*c+d*d=((1:Int):Rat) from h1)];rfl
    have HOO:=hide hoo;have H1:=hide h1;clear hoo h1 g0 g1 gf0 gf1;obtain ⟨x0,x1,xf0,xf1⟩:=(BX.out wf (gr_none GB.out GF.out)).c2;go_wp2_with fail;refine (cxOf_at s t p q m 131074 wf HP.out HQ.out (by omega) (by omega) F1.out F2.out (gr_cell (gr_none (gr_none GW.out GB.out) GF.out) HM.out)).mono ?_;rintro e wg ⟨b1,b2,rfl,p1,p2,gg⟩;have Q1:=hide p1;have Q2:=hide p2;have GG1:=hide (gr_none GF.out gg);clear p1 p2 gg x0 x1 xf0 xf1;go_wp2_with fail;refine (rOfV_at u l m 131074 wg HL.out (by omega) F3.out (gr_cell (gr_none (gr_none GW.out GB.out) GG1.out) HM.out)).mono ?_;rintro e wh ⟨b3,rfl,p3,gh⟩;have Q3:=hide p3;have R1:=hide (Q1.out.keep0 gh);have R2:=hide (Q2.out.keep0 gh);have GH:=hide (gr_none GG1.out gh);clear p3 gh Q1 Q2;go_wp2_with fail;refine (cxReflect_at b1 b2 b3 p q l 131074 wh R1.out R2.out Q3.out (by decide) (by decide)).mono ?_;rintro e wi hd2;by_cases hz:rfC p q l=0
    ·obtain ⟨c1,c2,rfl,r1,r2,gi⟩:=hd2.good hz;have S1:=hide r1;have S2:=hide r2;have GI:=hide (gr_none GH.out gi);have HZ:=hide hz;clear r1 r2 gi hd2 hz;go_upto_region 16 with fail;obtain ⟨Wc,hWc⟩:∃ wz,wz=(wi.alloc (Obj.cells #[.pointer (some ⟨c1,0,none⟩),.pointer (some ⟨c2,0,none⟩)] 32)):=⟨_,rfl⟩;have GWc:Hid (wi.grownBy Wc none):=by rw [hWc];exact gr_alloc (gr_refl _ _) _
     have BCX:Hid (∀ wx,Wc.grownBy wx none->BoxC wx wi.heap.size #[.pointer (some ⟨c1,0,none⟩),.pointer (some ⟨c2,0,none⟩)]):=by
      intro wx g;rw [hWc] at g;exact (boxNew wi #[.pointer (some ⟨c1,0,none⟩),.pointer (some ⟨c2,0,none⟩)] 32).keep0 g
     rw [<- hWc];clear hWc;have GJ:=hide (gr_none GI.out GWc.out);have T1:=hide (S1.out.keep0 GWc.out);have T2:=hide (S2.out.keep0 GWc.out);have hbs:WL.heap.size<=wi.heap.size:=GI.out.size;refine wp_region_noPanic ?_;refine wp_region_any (by kernel_rfl) ?_;change wpAny _ _ _ _ _ _ _ (World.drew _)
     refine late_any (S:=fun w'=>w'.cell? ⟨wi.heap.size,0,none⟩=some (.pointer (some ⟨c1,0,none⟩))/\w'.cell? ⟨wi.heap.size,1,none⟩=some (.pointer (some ⟨c2,0,none⟩))/\w'.cell? ⟨w.heap.size+1,0,none⟩=some (.string a)/\w'.cell? ⟨w.heap.size+1,1,none⟩=some (.string b)) (T:=fun i=>decide (7<=i)) _ _ _ _ ?_;have GG:Wc.grownBy Wc.drew none:=gr_d1;obtain ⟨x0,x1,xf0,xf1⟩:=(BCX.out _ GG).c2;obtain ⟨y0,y1,yf0,yf1⟩:=(BU.out _ (gr_none GB.out (gr_none GJ.out GG))).c2;have hHeld:(fun w'=>w'.cell? ⟨wi.heap.size,0,none⟩=some (.pointer (some ⟨c1,0,none⟩))/\w'.cell? ⟨wi.heap.size,1,none⟩=some (.pointer (some ⟨c2,0,none⟩))/\w'.cell? ⟨w.heap.size+1,0,none⟩=some (.string a)/\w'.cell? ⟨w.heap.size+1,1,none⟩=some (.string b)) Wc.drew:=by (dsimp only;go_keep)
     refine late_take (fun k=>k==3 || k==6 || k==7 || k==8 || k==9 || k==10 || k==11) (i:=0) (v:=(Value.agg #[.pointer (some ⟨c1,0,none⟩),.pointer (some ⟨c2,0,none⟩)])) rfl (by kernel_rfl) (by kernel_rfl) (by kernel_rfl) (by kernel_rfl) (by kernel_rfl) (fun _ _ _ h=>h) (Or.inl ⟨by rfl,?zy0⟩) hHeld ?zr0
     case zy0=>(intro w hSw;(try dsimp only at hSw);go_simp)
     case zr0 =>
      (try simp only [Act.put,List.setIfInBounds_toArray,List.set_cons_zero,List.set_cons_succ])
      refine late_take (fun k=>k==2 || k==3 || k==6 || k==7 || k==8 || k==9 || k==10 || k==11) (i:=1) (v:=(Value.agg #[.string a,.string b])) rfl (by kernel_rfl) (by kernel_rfl) (by kernel_rfl) (by kernel_rfl) (by kernel_rfl) (fun _ _ _ h=>h) (Or.inl ⟨by rfl,?zy1⟩) hHeld ?zr1
      case zy1=>(intro w hSw;(try dsimp only at hSw);go_simp)
      case zr1 =>
       (try simp only [Act.put,List.setIfInBounds_toArray,List.set_cons_zero,List.set_cons_succ])
       refine late_take (fun k=>k==5 || k==6 || k==7 || k==8 || k==9 || k==10 || k==11) (i:=4) (v:=(Value.string u)) rfl (by kernel_rfl) (by kernel_rfl) (by kernel_rfl) (by kernel_rfl) (by kernel_rfl) (fun _ _ _ h=>h) (Or.inl ⟨by rfl,?zy4⟩) hHeld ?zr4
       case zy4=>(intro w hSw;(try dsimp only at hSw);go_simp)
       case zr4 =>
        (try simp only [Act.put,List.setIfInBounds_toArray,List.set_cons_zero,List.set_cons_succ])
        refine late_one (i:=2) (by kernel_rfl) rfl (fun K hK=>?_);go_simp
        refine (cxOf_at a b c d m 131074 _ HC.out HD.out (by omega) (by omega) F4.out F5.out (gr_cell (gr_none (gr_none GW.out GB.out) (gr_none GJ.out GG)) HM.out)).mono ?_;rintro e wk1 ⟨d1,d2,rfl,pd1,pd2,gk1⟩;have GG:Wc.grownBy wk1 none:=gr_none GG gk1;obtain ⟨k1x0,k1x1,k1xf0,k1xf1⟩:=(BCX.out _ GG).c2;obtain ⟨k1y0,k1y1,k1yf0,k1yf1⟩:=(BU.out _ (gr_none GB.out (gr_none GJ.out GG))).c2;go_wp2_with fail;refine hK.out _ _ ?zs2 ?zt2
        case zs2=>(intro _;(try dsimp only);go_keep)
        case zt2 =>
         (try simp only [Act.put,List.setIfInBounds_toArray,List.set_cons_zero,List.set_cons_succ])
         refine late_one (i:=3) (by kernel_rfl) rfl (fun K hK=>?_);go_simp
         refine (cxTimes_at c1 c2 d1 d2 (rfR p q l) (rfI p q l) c d 2621680 131074 _ (T1.out.keep0 GG) (T2.out.keep0 GG) pd1 pd2 (by decide) (by decide) (by decide)).mono ?_;rintro e wk2 ⟨e1,e2,rfl,pe1,pe2,gk2⟩;have GG:Wc.grownBy wk2 none:=gr_none GG gk2;obtain ⟨k2x0,k2x1,k2xf0,k2xf1⟩:=(BCX.out _ GG).c2;obtain ⟨k2y0,k2y1,k2yf0,k2yf1⟩:=(BU.out _ (gr_none GB.out (gr_none GJ.out GG))).c2;go_wp2_with fail;refine hK.out _ _ ?zs3 ?zt3
         case zs3=>(intro _;(try dsimp only);go_keep)
         case zt3 =>
          (try simp only [Act.put,List.setIfInBounds_toArray,List.set_cons_zero,List.set_cons_succ])
          refine late_one (i:=5) (by kernel_rfl) rfl (fun K hK=>?_);go_simp
          refine (rOfV_at u l m 131074 _ HL.out (by omega) F3.out (gr_cell (gr_none (gr_none GW.out GB.out) (gr_none GJ.out GG)) HM.out)).mono ?_;rintro e wk3 ⟨f1,rfl,pf1,gk3⟩;have pe1:=pe1.keep0 gk3;have pe2:=pe2.keep0 gk3;have GG:Wc.grownBy wk3 none:=gr_none GG gk3;obtain ⟨k3x0,k3x1,k3xf0,k3xf1⟩:=(BCX.out _ GG).c2;obtain ⟨k3y0,k3y1,k3yf0,k3yf1⟩:=(BU.out _ (gr_none GB.out (gr_none GJ.out GG))).c2;go_wp2_with fail;refine hK.out _ _ ?zs5 ?zt5
          case zs5=>(intro _;(try dsimp only);go_keep)
          case zt5 =>
           (try simp only [Act.put,List.setIfInBounds_toArray,List.set_cons_zero,List.set_cons_succ])
           refine late_one (i:=6) (by kernel_rfl) rfl (fun K hK=>?_);go_simp
           refine (cxEnds_at e1 e2 f1 (alX p q l c d) (alY p q l c d) l 5505515 _ pe1 pe2 (pf1.mono (by decide)) (by decide) (by decide)).mono ?_;rintro e wk4 hke;have hkc:kL=enC (alX p q l c d) (alY p q l c d) l:=by rw [HKL.out];unfold alC;rw [if_pos H1.out,if_pos HZ.out]
           by_cases hy:enC (alX p q l c d) (alY p q l c d) l=0
           ·obtain ⟨u1,u2,rfl,q1,q2,gk4⟩:=hke.good hy;obtain rfl:kL=0:=hkc.trans hy;have HKC:=hide hkc;clear hkc hy hke;have GG:Wc.grownBy wk4 none:=gr_none GG gk4;obtain ⟨k4x0,k4x1,k4xf0,k4xf1⟩:=(BCX.out _ GG).c2;obtain ⟨k4y0,k4y1,k4yf0,k4yf1⟩:=(BU.out _ (gr_none GB.out (gr_none GJ.out GG))).c2;go_wp2_with fail;refine hK.out _ _ ?zs6g ?zt6g
            case zs6g=>(intro _;(try dsimp only);go_keep)
            case zt6g =>
             (try simp only [Act.put,List.setIfInBounds_toArray,List.set_cons_zero,List.set_cons_succ])
             refine late_rest _ _ _ _ ?zlg ?zwg
             case zlg=>(intro j hj hju;match j,hj,hju with | 7,_,_=>rfl | 8,_,_=>rfl | 9,_,_=>rfl | 10,_,_=>rfl | 11,_,_=>rfl)
             case zwg =>
              refine wpAny_take (i:=7) (v:=(Value.tuple #[.agg #[.pointer (some ⟨u1,0,none⟩),.pointer (some ⟨u2,0,none⟩)],.int .i64 0])) rfl (by kernel_rfl) (by kernel_rfl) (by kernel_rfl) (fun _ _ _ h=>h) (Or.inl ⟨by rfl,?zy7g⟩) ?zr7g
              case zy7g=>(intro w;go_simp)
              case zr7g =>
               (try simp only [Act.put,List.setIfInBounds_toArray,List.set_cons_zero,List.set_cons_succ])
               refine wpAny_take (i:=8) (v:=(Value.agg #[.pointer (some ⟨u1,0,none⟩),.pointer (some ⟨u2,0,none⟩)])) rfl (by kernel_rfl) (by kernel_rfl) (by kernel_rfl) (fun _ _ _ h=>h) (Or.inl ⟨by rfl,?zy8g⟩) ?zr8g
               case zy8g=>(intro w;go_simp)
               case zr8g =>
                (try simp only [Act.put,List.setIfInBounds_toArray,List.set_cons_zero,List.set_cons_succ])
                refine wpAny_take (i:=9) (v:=(Value.int .i64 0)) rfl (by kernel_rfl) (by kernel_rfl) (by kernel_rfl) (fun _ _ _ h=>h) (Or.inl ⟨by rfl,?zy9g⟩) ?zr9g
                case zy9g=>(intro w;go_simp)
                case zr9g =>
                 (try simp only [Act.put,List.setIfInBounds_toArray,List.set_cons_zero,List.set_cons_succ])
                 refine wpAny_ready (rs:=[10]) (by kernel_rfl) (by simp) ?_;refine AllReady.cons rfl (fun K hK=>?_) AllReady.nil;obtain ⟨W7,hW7⟩:∃ x,x=((wk4.setCell ⟨wi.heap.size,0,none⟩ (.pointer (some ⟨u1,0,none⟩))).setCell ⟨wi.heap.size,1,none⟩ (.pointer (some ⟨u2,0,none⟩))):=⟨_,rfl⟩;go_simp
                 rw [<- hW7];refine hK _ _ ?_
                 (try simp only [Act.put,List.setIfInBounds_toArray,List.set_cons_zero,List.set_cons_succ])
                 refine wpAny_take (i:=11) (v:=(Value.int .i64 0)) rfl (by kernel_rfl) (by kernel_rfl) (by kernel_rfl) (fun _ _ _ h=>h) (Or.inl ⟨by rfl,?zy11g⟩) ?zr11g
                 case zy11g=>(intro w;go_simp)
                 case zr11g =>
                  (try simp only [Act.put,List.setIfInBounds_toArray,List.set_cons_zero,List.set_cons_succ])
                  refine wpAny_done (by kernel_rfl) ?_ _;refine NoPanic.normal ?_;have b7:BoxC W7 wi.heap.size #[.pointer (some ⟨u1,0,none⟩),.pointer (some ⟨u2,0,none⟩)]:=by rw [hW7];exact (BCX.out wk4 GG).set2
                  have Q1:Hid (RV W7 u1 (alR p q l c d) 110110500):=by unfold Hid;rw [hW7];exact q1.put (BCX.out wk4 GG)
                  have Q2:Hid (RV W7 u2 (alI p q l c d) 110110500):=by unfold Hid;rw [hW7];exact q2.put (BCX.out wk4 GG)
                  clear q1 q2;have G7:Hid (WL.grownBy W7 none):=by unfold Hid;rw [hW7];exact gr_set (gr_set (gr_none GJ.out GG) _ _ (by simpa using hbs)) _ _ (by simpa using hbs)
                  obtain ⟨s0,s1,sf0,sf1⟩:=b7.c2;clear hW7 b7 hK GG;go_wp2_with fail;refine (say_ok u1 u2 (alR p q l c d) (alI p q l c d) _ W7 Q1.out Q2.out (by decide)).mono ?_;rintro e wj ⟨rfl,gj⟩;rw [<- (HA0.out (by first | rfl | trivial)).1,<- (HA0.out (by first | rfl | trivial)).2];have GJ2:=hide (gr_none G7.out gj);clear gj s0 s1 sf0 sf1;go_upto_region 18 with fail;obtain ⟨WY,hWY⟩:∃ wz,wz=(wj.alloc (Obj.cells #[.string AL,.string BL] 24)):=⟨_,rfl⟩;have GWY:Hid (wj.grownBy WY none):=by rw [hWY];exact gr_alloc (gr_refl _ _) _
                  have BY:Hid (∀ wx,WY.grownBy wx none->BoxC wx wj.heap.size #[.string AL,.string BL]):=by
                   intro wx g;rw [hWY] at g;exact (boxNew wj #[.string AL,.string BL] 24).keep0 g
                  rw [<- hWY];clear hWY;have GK:=hide (gr_none GJ2.out GWY.out);obtain ⟨g0,g1,gf0,gf1⟩:=(BGL.out WY GK.out).c2;obtain ⟨y0,y1,yf0,yf1⟩:=(BY.out WY (gr_refl _ _)).c2;go_wp2;go_ret;exact ⟨by first | rfl | simp,gr_none (gr_none GW.out GB.out) GK.out⟩
           ·obtain ⟨rfl,gk4⟩:=hke.ill hy;rw [<- hkc];rw [<- hkc] at hy;have HY:=hide hy;have HKC:=hide hkc;clear hkc hy hke;have GG:Wc.grownBy wk4 none:=gr_none GG gk4;obtain ⟨k4x0,k4x1,k4xf0,k4xf1⟩:=(BCX.out _ GG).c2;obtain ⟨k4y0,k4y1,k4yf0,k4yf1⟩:=(BU.out _ (gr_none GB.out (gr_none GJ.out GG))).c2;go_wp2_with fail;refine hK.out _ _ ?zs6b ?zt6b
            case zs6b=>(intro _;(try dsimp only);go_keep)
            case zt6b =>
             (try simp only [Act.put,List.setIfInBounds_toArray,List.set_cons_zero,List.set_cons_succ])
             refine late_rest _ _ _ _ ?zlb ?zwb
             case zlb=>(intro j hj hju;match j,hj,hju with | 7,_,_=>rfl | 8,_,_=>rfl | 9,_,_=>rfl | 10,_,_=>rfl | 11,_,_=>rfl)
             case zwb =>
              refine wpAny_take (i:=7) (v:=(Value.tuple #[.agg #[.pointer none,.pointer none],.int .i64 kL])) rfl (by kernel_rfl) (by kernel_rfl) (by kernel_rfl) (fun _ _ _ h=>h) (Or.inl ⟨by rfl,?zy7b⟩) ?zr7b
              case zy7b=>(intro w;go_simp)
              case zr7b =>
               (try simp only [Act.put,List.setIfInBounds_toArray,List.set_cons_zero,List.set_cons_succ])
               refine wpAny_take (i:=8) (v:=(Value.agg #[.pointer none,.pointer none])) rfl (by kernel_rfl) (by kernel_rfl) (by kernel_rfl) (fun _ _ _ h=>h) (Or.inl ⟨by rfl,?zy8b⟩) ?zr8b
               case zy8b=>(intro w;go_simp)
               case zr8b =>
                (try simp only [Act.put,List.setIfInBounds_toArray,List.set_cons_zero,List.set_cons_succ])
                refine wpAny_take (i:=9) (v:=(Value.int .i64 kL)) rfl (by kernel_rfl) (by kernel_rfl) (by kernel_rfl) (fun _ _ _ h=>h) (Or.inl ⟨by rfl,?zy9b⟩) ?zr9b
                case zy9b=>(intro w;go_simp)
                case zr9b =>
                 (try simp only [Act.put,List.setIfInBounds_toArray,List.set_cons_zero,List.set_cons_succ])
                 refine wpAny_ready (rs:=[10]) (by kernel_rfl) (by simp) ?_;refine AllReady.cons rfl (fun K hK=>?_) AllReady.nil;obtain ⟨W7,hW7⟩:∃ x,x=((wk4.setCell ⟨wi.heap.size,0,none⟩ (.pointer none)).setCell ⟨wi.heap.size,1,none⟩ (.pointer none)):=⟨_,rfl⟩;go_simp
                 rw [<- hW7];refine hK _ _ ?_
                 (try simp only [Act.put,List.setIfInBounds_toArray,List.set_cons_zero,List.set_cons_succ])
                 refine wpAny_take (i:=11) (v:=(Value.int .i64 kL)) rfl (by kernel_rfl) (by kernel_rfl) (by kernel_rfl) (fun _ _ _ h=>h) (Or.inl ⟨by rfl,?zy11b⟩) ?zr11b
                 case zy11b=>(intro w;go_simp)
                 case zr11b =>
                  (try simp only [Act.put,List.setIfInBounds_toArray,List.set_cons_zero,List.set_cons_succ])
                  refine wpAny_done (by kernel_rfl) ?_ _;refine NoPanic.normal ?_;have b7:BoxC W7 wi.heap.size #[.pointer none,.pointer none]:=by rw [hW7];exact (BCX.out wk4 GG).set2
                  have G7:Hid (WL.grownBy W7 none):=by unfold Hid;rw [hW7];exact gr_set (gr_set (gr_none GJ.out GG) _ _ (by simpa using hbs)) _ _ (by simpa using hbs)
                  obtain ⟨s0,s1,sf0,sf1⟩:=b7.c2;clear hW7 b7 hK GG;go_wp2_with fail;refine (say_bad kL _ HY.out).mono ?_;rintro e wj ⟨rfl,gj⟩;have GJ2:=hide (gr_none G7.out gj);have hAL:=(HA1.out HY.out).1;have hBL:=(HA1.out HY.out).2;subst hAL;subst hBL;clear gj s0 s1 sf0 sf1;go_upto_region 18 with fail;obtain ⟨WY,hWY⟩:∃ wz,wz=(wj.alloc (Obj.cells #[.string ⟨#[]⟩,.string ⟨#[]⟩] 24)):=⟨_,rfl⟩;have GWY:Hid (wj.grownBy WY none):=by rw [hWY];exact gr_alloc (gr_refl _ _) _
                  have BY:Hid (∀ wx,WY.grownBy wx none->BoxC wx wj.heap.size #[.string ⟨#[]⟩,.string ⟨#[]⟩]):=by
                   intro wx g;rw [hWY] at g;exact (boxNew wj #[.string ⟨#[]⟩,.string ⟨#[]⟩] 24).keep0 g
                  rw [<- hWY];clear hWY;have GK:=hide (gr_none GJ2.out GWY.out);obtain ⟨g0,g1,gf0,gf1⟩:=(BGL.out WY GK.out).c2;obtain ⟨y0,y1,yf0,yf1⟩:=(BY.out WY (gr_refl _ _)).c2;go_wp2;go_ret;exact ⟨by first | rfl | simp,gr_none (gr_none GW.out GB.out) GK.out⟩
    ·obtain ⟨rfl,gi⟩:=hd2.ill hz;have GI:=hide (gr_none GH.out gi);have hkc:kL=rfC p q l:=by rw [HKL.out];unfold alC;rw [if_pos H1.out,if_neg hz]
     rw [<- hkc] at hz ⊢;have HKC:=hide hkc;have hAL:=(HA1.out hz).1;have hBL:=(HA1.out hz).2;have hzb:(kL==0)=false:=beq_eq_false_iff_ne.2 hz;have HZ:=hide hz;clear gi hd2 hkc hz;subst hAL;subst hBL;go_wp2_with fail;refine (say_bad kL _ HZ.out).mono ?_;rintro e wj ⟨rfl,gj⟩;have GJ2:=hide (gr_none (gr_alloc GI.out _) gj);clear gj;go_upto_region 18 with fail;obtain ⟨WY,hWY⟩:∃ wz,wz=(wj.alloc (Obj.cells #[.string ⟨#[]⟩,.string ⟨#[]⟩] 24)):=⟨_,rfl⟩;have GWY:Hid (wj.grownBy WY none):=by rw [hWY];exact gr_alloc (gr_refl _ _) _
     have BY:Hid (∀ wx,WY.grownBy wx none->BoxC wx wj.heap.size #[.string ⟨#[]⟩,.string ⟨#[]⟩]):=by
      intro wx g;rw [hWY] at g;exact (boxNew wj #[.string ⟨#[]⟩,.string ⟨#[]⟩] 24).keep0 g
     rw [<- hWY];clear hWY;have GK:=hide (gr_none GJ2.out GWY.out);obtain ⟨g0,g1,gf0,gf1⟩:=(BGL.out WY GK.out).c2;obtain ⟨y0,y1,yf0,yf1⟩:=(BY.out WY (gr_refl _ _)).c2;go_wp2;go_ret;exact ⟨by first | rfl | simp,gr_none (gr_none GW.out GB.out) GK.out⟩
   ·have hob:(oo==0)=false:=by rw [hoo];exact beq_eq_false_iff_ne.2 (fun e=>h1 ((ordX_zero _ _).1 e))
    have HOO:=hide hoo;have hk6:kL=6:=by rw [HKL.out];unfold alC;rw [if_neg h1]
    obtain ⟨hAL,hBL⟩:=HA1.out (by rw [hk6];decide);rw [hAL] at g0;rw [hBL] at g1;rw [hk6];clear hoo h1 hk6 hAL hBL;go_wp2;go_ret;exact ⟨by first | rfl | simp,gr_none (gr_none GW.out GB.out) GF.out⟩
end Go.Proofs.YtnpfjnkmpbmgeaaGreatDoor
