/- Contracts that the proof leans on. -/
import Derived.Test.YthblidglcppakaaGreatDoorXCSc
import Derived.Test.YthblidglcppakaaGreatDoorXMMat
namespace Go.Proofs.YthblidglcppakaaGreatDoor
open Go.RowKit
set_option linter.unusedVariables false
set_option linter.unusedSimpArgs false
set_option maxHeartbeats 8000000
set_option maxRecDepth 10000
theorem yT (R:Nat->Rat) (i j:Nat) (h:(((cD R i i).den:Nat):Rat)-1=0):cD R i j=cD R (i+1) j:=by
 rw [je,show (((cD R i i).den:Nat):Rat)=1 from by grind,Rat.mul_one]
theorem Bz {L:Nat} {q:Rat} (hL:1<=L) (h:bM L q):bM L ((q.den:Nat):Rat):=by
 refine ⟨?_,?_⟩
 ·show ((q.den:Nat):Rat).num.natAbs<_
  rw [Rat.num_natCast,Int.natAbs_natCast];exact h.2
 ·rw [Rat.den_natCast];exact Nat.lt_of_lt_of_le (by decide:1<4294967296^1) (Nat.pow_le_pow_right (by decide) hL)
def WhoR (W:World) (base m n:Nat) (R:Nat->Nat->Rat) (L:Nat) (v5 v12:Value) (wr:World):Prop :=
 ∃ (i:Nat) (bs cs:Nat->Nat),i<=m/\v12=.int .i64 i/\jH (lF n) 60 wr base v5 (fV bs cs i)/\rU wr base n i bs cs (fun j=>cD (R j) n) L/\W.grownBy wr none
def WinR (W:World) (g n:Nat) (R:Nat->Rat) (L:Nat) (v:Value) (wr:World):Prop :=
 ∃ k:Nat,k<=n/\v=.int .i64 k/\aH wr g n (cD R k) L/\aX W wr g
def WholeE (w:World) (m n:Nat) (R:Nat->Nat->Rat) (L:Nat) (e:Ending) (w':World):Prop :=
 ∃ br cap bs cs,e=.returned (.slice (some ⟨br,0,none⟩) m cap)/\w.heap.size<=br/\m<=cap/\cap<=maxLen/\(∀ i,i<m->w.heap.size<=bs i)/\bX w' br m n bs cs (fun j=>cD (R j) n) L/\w.grownBy w' none
theorem sU (fb:Bool) (fo fo2:Option Addr) (fl fc fl2 fc2:Nat) (br m n cap:Nat) (bs cs:Nat->Nat) (R:Nat->Nat->Rat) (L:Nat) (w:World)
  (hM:bX w br m n bs cs R L) (h1:FQ w (.agg #[.bool fb,.slice fo fl fc,.slice fo2 fl2 fc2]) 1 L) (hm0:0<m) (hm:m<=1000) (hn0:0<n) (hn:n<=1000) (hc:m<=cap) (hc2:cap<=maxLen) (hL1:1<=L) (hL:L<=50000000)
  (hfit:∀ i,i<m->∀ k,k<=n->∀ j,j<n->bM L (cD (R i) k j)) :
  Calls Tryz.prog 173 #[(jI fb (.slice fo fl fc) (.slice fo2 fl2 fc2)),.slice (some ⟨br,0,none⟩) m cap] w fun e w'=>WholeE w m n R L e w':=by
 unfold maxLen at hc2;have HM:=ab hM;have H1:=ab h1;have HF:=ab hfit;clear hM h1 hfit;obtain ⟨W,hW⟩:∃ W,W=w.alloc (Obj.cells #[.bool fb,.slice fo fl fc,.slice fo2 fl2 fc2,.func (.func 99) #[] #[],.func (.func 100) #[] #[],.func (.func 81) #[] #[],.func (.func 101) #[] #[],.func (.func 102) #[] #[],.func (.func 103) #[] #[],.func (.func 104) #[] #[],.func (.func 105) #[] #[]] 126):=⟨_,rfl⟩;have GW:Hid (w.grownBy W none):=by rw [hW];exact ag (ae _ _) _
 have HWS:Hid (W.heap.size=w.heap.size+1):=by show _=_;rw [hW];simp
 have BASE:Hid (∀ wx g,W.heap.size<=g->W.grownBy wx (some g)->wx.cell? ⟨w.heap.size,3,none⟩=some (.func (.func 99) #[] #[])/\wx.cell? ⟨w.heap.size,4,none⟩=some (.func (.func 100) #[] #[])/\wx.cell? ⟨w.heap.size,5,none⟩=some (.func (.func 81) #[] #[])/\wx.cell? ⟨w.heap.size,6,none⟩=some (.func (.func 101) #[] #[])/\wx.cell? ⟨w.heap.size,7,none⟩=some (.func (.func 102) #[] #[])/\wx.cell? ⟨w.heap.size,8,none⟩=some (.func (.func 103) #[] #[])/\wx.cell? ⟨w.heap.size,9,none⟩=some (.func (.func 104) #[] #[])/\wx.cell? ⟨w.heap.size,10,none⟩=some (.func (.func 105) #[] #[])/\wx.cell? ⟨w.heap.size,0,none⟩=some (.bool fb)/\wx.cell? ⟨w.heap.size,1,none⟩=some (.slice fo fl fc)/\wx.cell? ⟨w.heap.size,2,none⟩=some (.slice fo2 fl2 fc2)):=by
  intro wx g hgs hg;have hsz:=HWS.out;rw [hW] at hg;have n1:some w.heap.size≠some g:=fun e=>by have:=Option.some.inj e;omega
  exact ⟨hg.cell (by go_simp) n1,hg.cell (by go_simp) n1,hg.cell (by go_simp) n1,hg.cell (by go_simp) n1,hg.cell (by go_simp) n1,hg.cell (by go_simp) n1,hg.cell (by go_simp) n1,hg.cell (by go_simp) n1,hg.cell (by go_simp) n1,hg.cell (by go_simp) n1,hg.cell (by go_simp) n1⟩
 go_enter Tryz.func173,Tryz.ntmps173
 go_upto_region 2 with fail;rw [<- hW];clear hW;go_wp2;go_loopw [5,12] (fun v5 v12 wr=>Hid (WhoR W W.heap.size m n R L v5 v12 wr)) (fun _ v _=>m-(intOf v).toNat)
 case atStart=>exact ⟨0,fun _=>0,fun _=>0,by omega,rfl,uG,rU.nil _ _ _ _ _ _ _,ae _ _⟩
 case round =>
  obtain ⟨i,bt,ct,hi,rfl,l1,l2,l3⟩:=hrel.out;obtain ⟨oa,oc,rfl⟩:=l1.1.shape;rw [cJ] at l1 ⊢;have L1:=ab l1;have L2:=ab l2;have L3:=ab l3;clear l1 l2 l3 hrel;by_cases hlt:i<m
  ·have MM:=ab ((HM.out.keep0 GW.out).keep0 L3.out);have ci:=(MM.out.cell i hlt).1;obtain ⟨hcc1,hcc2⟩:=MM.out.cap i hlt;have HCC:=ab hcc2;unfold maxLen at hcc2;go_wp2_with fail;refine (uU (bs i) n (cs i) (R i) L _ (MM.out.row i hlt) hn0 (by omega) hcc1 HCC.out).mono ?_;rintro e w1 ⟨g,c,rfl,hg1,hg2,hg3,f1,g1⟩;have F1:=ab f1;have G1:=ab (aa L3.out g1);have HG3:=ab hg3;have K1:=ab (L1.out.keep0 g1);have K2:=ab (L2.out.keep0 g1);have HNE:Hid ((Value.slice oa i oc).ownBlock≠some g):=fun e=>by have:=(L1.out.1.fresh g e).2;omega
   have HNB:Hid (∀ j,j<i->bt j≠g):=fun j hj e=>by have:=(L2.out.row j hj).lt;omega
   have HGW:Hid (W.heap.size<=g):=by show _<=_;have:=L3.out.size;omega
   unfold maxLen at hg3;clear f1 g1 L1 L2 L3 MM ci HCC hg1;go_wp2;go_loopw [20] (fun v wx=>Hid (WinR w1 g n (R i) L v wx)) (fun v _=>n-(intOf v).toNat)
   case atStart=>exact ⟨0,by omega,rfl,F1.out.congr (fun j _=>(vZ _ j).symm),aX.refl _ _⟩
   case round =>
    obtain ⟨k,hk,rfl,k1,k2⟩:=hrel.out;have I1:=ab k1;have I2:=ab k2;clear k1 k2 hrel F1;have HIW:Hid (∀ wx,aX w1 wx g->W.grownBy wx (some g)):=fun wx hx=>aq (r:=some g) G1.out hx.1 (fun _ _ e=>by cases e) (fun _ _ e=>e)
    by_cases hkn:k<n
    ·obtain ⟨xo,xl,xc,yo,yl,yc,c0,c1,c2,c3,_⟩:=I1.out.at k hkn;have X3:=ab c3;have CX:Hid (∀ wx,wr.grownBy wx none->wx.cell? ⟨w.heap.size,3,none⟩=some (.func (.func 99) #[] #[])/\wx.cell? ⟨w.heap.size,4,none⟩=some (.func (.func 100) #[] #[])/\wx.cell? ⟨w.heap.size,5,none⟩=some (.func (.func 81) #[] #[])/\wx.cell? ⟨w.heap.size,6,none⟩=some (.func (.func 101) #[] #[])/\wx.cell? ⟨w.heap.size,7,none⟩=some (.func (.func 102) #[] #[])/\wx.cell? ⟨w.heap.size,8,none⟩=some (.func (.func 103) #[] #[])/\wx.cell? ⟨w.heap.size,9,none⟩=some (.func (.func 104) #[] #[])/\wx.cell? ⟨w.heap.size,10,none⟩=some (.func (.func 105) #[] #[])/\wx.cell? ⟨w.heap.size,0,none⟩=some (.bool fb)/\wx.cell? ⟨w.heap.size,1,none⟩=some (.slice fo fl fc)/\wx.cell? ⟨w.heap.size,2,none⟩=some (.slice fo2 fl2 fc2)/\wx.cell? ⟨g,k*3,none⟩=some (.bool (rB (cD (R i) k k)))/\wx.cell? ⟨g,k*3+1,none⟩=some (.slice xo xl xc)/\wx.cell? ⟨g,k*3+2,none⟩=some (.slice yo yl yc)):=by
      intro wx hg;obtain ⟨s0,s1,s2,s3,s4,s5,s6,s7,s8,s9,s10⟩:=BASE.out wx g HGW.out (HIW.out wx (I2.out.gr hg));exact ⟨s0,s1,s2,s3,s4,s5,s6,s7,s8,s9,s10,hg.cell c0 (by simp),hg.cell c1 (by simp),hg.cell c2 (by simp)⟩
     clear c0 c1 c2 c3;have HD:Hid (bM L (((cD (R i) k k).den:Nat):Rat)):=Bz hL1 (HF.out i hlt k (by omega) k hkn);have HRI:Hid (aH wr g n (cD (R i) k) L):=I1.out;have GG:wr.grownBy wr none:=ae _ _;obtain ⟨s0,s1,s2,s3,s4,s5,s6,s7,s8,s9,s10,s11,s12,s13⟩:=CX.out wr GG;have hszg:g<wr.heap.size:=I1.out.lt;have hszw:w.heap.size<wr.heap.size:=by have:=HGW.out;have:=HWS.out;omega
     have nz1:wr.heap.size≠w.heap.size:=by omega
     have nz2:wr.heap.size≠g:=by omega
     obtain ⟨den,hden⟩:∃ den:Rat,den=(((cD (R i) k k).den:Nat):Rat):=⟨_,rfl⟩;have HDEN:=ab hden;have HD':Hid (bM L den):=by rw [hden];exact HD.out
     clear hden;go_upto_region 9 with fail;go_cut [9] (fun s9 wx=>Hid (∃ gs,s9=.pointer (some ⟨gs,0,none⟩)/\wr.heap.size<=gs/\aH wx gs 1 (fun _=>den) L/\wr.grownBy wx none))
     case first =>
      go_region_held3 (fun w'=>w'.cell? ⟨w.heap.size,3,none⟩=some (.func (.func 99) #[] #[])/\w'.cell? ⟨w.heap.size,4,none⟩=some (.func (.func 100) #[] #[])/\w'.cell? ⟨w.heap.size,5,none⟩=some (.func (.func 81) #[] #[])/\w'.cell? ⟨w.heap.size,6,none⟩=some (.func (.func 101) #[] #[])/\w'.cell? ⟨w.heap.size,7,none⟩=some (.func (.func 102) #[] #[])/\w'.cell? ⟨w.heap.size,8,none⟩=some (.func (.func 103) #[] #[])/\w'.cell? ⟨w.heap.size,9,none⟩=some (.func (.func 104) #[] #[])/\w'.cell? ⟨w.heap.size,10,none⟩=some (.func (.func 105) #[] #[])/\w'.cell? ⟨w.heap.size,0,none⟩=some (.bool fb)/\w'.cell? ⟨w.heap.size,1,none⟩=some (.slice fo fl fc)/\w'.cell? ⟨w.heap.size,2,none⟩=some (.slice fo2 fl2 fc2)/\w'.cell? ⟨g,k*3,none⟩=some (.bool (rB (cD (R i) k k)))/\w'.cell? ⟨g,k*3+1,none⟩=some (.slice xo xl xc)/\w'.cell? ⟨g,k*3+2,none⟩=some (.slice yo yl yc)) (go_keep)
       (first | (go_at_call 104;refine (qBar_at _ (cD (R i) k k) L _ (X3.out.keep0 (aa GG (by first | exact aj _ | exact ah | exact ae _ _ | exact ag (aj _) _ | exact ag ah _ | exact ar (ag (ae _ _) _) 1 | exact ar (ag (ae _ _) _) _)))).mono ?_;rintro e wx ⟨vx,rfl,px,gx⟩;have px:=px.tight (L':=L) HD.out;rw [<- HDEN.out] at px;obtain ⟨po,pl,pc,qo,ql,qc,rfl⟩:=px.shape;have GG:wr.grownBy wx none:=aa (aa GG (by first | exact aj _ | exact ah | exact ae _ _ | exact ag (aj _) _ | exact ag ah _ | exact ar (ag (ae _ _) _) 1 | exact ar (ag (ae _ _) _) _)) gx;obtain ⟨x0,x1,x2,x3,x4,x5,x6,x7,x8,x9,x10,x11,x12,x13⟩:=CX.out wx GG;(try (have gy:=aa (ar (ae (wr.alloc (Obj.cells #[.bool false,.slice none 0 0,.slice none 0 0] 91)) none) 1) gx;obtain ⟨rc0,rc1,rc2,rcf⟩:=aV gy;have rcf0:=rcf 0;have rcf1:=rcf 1;have rcf2:=rcf 2;clear rcf))))
      all_goals (go_wp2_with fail;go_meet;first
       | exact ⟨_,rfl,GG.size,my (px.keep0 (by first | exact aj _ | exact ah | exact ae _ _)),ag (by first | exact aa GG (aj _) | exact aa GG ah | exact GG) _⟩
       | exact ⟨_,rfl,Nat.le_refl _,oA gy px,ai (ai (ai GG _ _ (Nat.le_refl _)) _ _ (Nat.le_refl _)) _ _ (Nat.le_refl _)⟩)
     case rest =>
      obtain ⟨gs,rfl,hgs,f2,g2⟩:=hcut.out;have F2:=ab f2;have G2:=ab g2;obtain ⟨so,sl,sc,to_,tl,tc,d0,d1,d2,d3,_⟩:=f2.var;have D3:=ab d3;clear hcut s0 s1 s2 s3 s4 s5 s6 s7 s8 s9 s10 s11 s12 s13 f2 g2 GG;have CY:Hid (∀ wx,wc.grownBy wx none->wx.cell? ⟨w.heap.size,3,none⟩=some (.func (.func 99) #[] #[])/\wx.cell? ⟨w.heap.size,4,none⟩=some (.func (.func 100) #[] #[])/\wx.cell? ⟨w.heap.size,5,none⟩=some (.func (.func 81) #[] #[])/\wx.cell? ⟨w.heap.size,6,none⟩=some (.func (.func 101) #[] #[])/\wx.cell? ⟨w.heap.size,7,none⟩=some (.func (.func 102) #[] #[])/\wx.cell? ⟨w.heap.size,8,none⟩=some (.func (.func 103) #[] #[])/\wx.cell? ⟨w.heap.size,9,none⟩=some (.func (.func 104) #[] #[])/\wx.cell? ⟨w.heap.size,10,none⟩=some (.func (.func 105) #[] #[])/\wx.cell? ⟨w.heap.size,0,none⟩=some (.bool fb)/\wx.cell? ⟨w.heap.size,1,none⟩=some (.slice fo fl fc)/\wx.cell? ⟨w.heap.size,2,none⟩=some (.slice fo2 fl2 fc2)/\wx.cell? ⟨gs,0,none⟩=some (.bool (rB den))/\wx.cell? ⟨gs,1,none⟩=some (.slice so sl sc)/\wx.cell? ⟨gs,2,none⟩=some (.slice to_ tl tc)):=by
       intro wx hg;obtain ⟨s0,s1,s2,s3,s4,s5,s6,s7,s8,s9,s10,s11,s12,s13⟩:=CX.out wx (aa G2.out hg);exact ⟨s0,s1,s2,s3,s4,s5,s6,s7,s8,s9,s10,hg.cell d0 (by simp),hg.cell d1 (by simp),hg.cell d2 (by simp)⟩
      clear d0 d1 d2 d3;have GG:wc.grownBy wc none:=ae _ _;obtain ⟨s0,s1,s2,s3,s4,s5,s6,s7,s8,s9,s10,s11,s12,s13⟩:=CY.out wc GG;go_wp2_with fail;go_cut [39] (fun s39 wx=>Hid (s39=.bool (!(decide (den-1=0)))/\wc.grownBy wx none))
      case first =>
       go_region_held3 (fun w'=>w'.cell? ⟨w.heap.size,3,none⟩=some (.func (.func 99) #[] #[])/\w'.cell? ⟨w.heap.size,4,none⟩=some (.func (.func 100) #[] #[])/\w'.cell? ⟨w.heap.size,5,none⟩=some (.func (.func 81) #[] #[])/\w'.cell? ⟨w.heap.size,6,none⟩=some (.func (.func 101) #[] #[])/\w'.cell? ⟨w.heap.size,7,none⟩=some (.func (.func 102) #[] #[])/\w'.cell? ⟨w.heap.size,8,none⟩=some (.func (.func 103) #[] #[])/\w'.cell? ⟨w.heap.size,9,none⟩=some (.func (.func 104) #[] #[])/\w'.cell? ⟨w.heap.size,10,none⟩=some (.func (.func 105) #[] #[])/\w'.cell? ⟨w.heap.size,0,none⟩=some (.bool fb)/\w'.cell? ⟨w.heap.size,1,none⟩=some (.slice fo fl fc)/\w'.cell? ⟨w.heap.size,2,none⟩=some (.slice fo2 fl2 fc2)/\w'.cell? ⟨gs,0,none⟩=some (.bool (rB den))/\w'.cell? ⟨gs,1,none⟩=some (.slice so sl sc)/\w'.cell? ⟨gs,2,none⟩=some (.slice to_ tl tc)) (go_keep)
        (first | (go_at_call 81;refine (cZ _ _ den 1 L L _ (D3.out.keep0 (by first | exact aa GG (aj _) | exact aa GG ah | exact GG)) (H1.out.kept ((aW.of_gr GW.out).trans ((aW.of_gr G1.out).trans (I2.out.2.trans (aW.of_gr (aa G2.out (by first | exact aa GG (aj _) | exact aa GG ah | exact GG))))))) (by omega)).mono ?_;rintro e wa ⟨va,rfl,pa,ga⟩;obtain ⟨ao,al,ac,bo,bl,bc,rfl⟩:=pa.shape;have GG:wc.grownBy wa none:=aa (by first | exact aa GG (aj _) | exact aa GG ah | exact GG) ga;obtain ⟨a0,a1,a2,a3,a4,a5,a6,a7,a8,a9,a10,a11,a12,a13⟩:=CY.out wa GG) | (go_at_call 103;refine (bq _ (den-1) (L+L+2) _ (pa.keep0 (by first | exact aj _ | exact ah | exact ae _ _))).mono ?_;rintro e wx ⟨rfl,gx⟩;have GG:wc.grownBy wx none:=aa (by first | exact aa GG (aj _) | exact aa GG ah | exact GG) gx;obtain ⟨x0,x1,x2,x3,x4,x5,x6,x7,x8,x9,x10,x11,x12,x13⟩:=CY.out wx GG))
       all_goals (go_wp2_with fail;go_meet;exact ⟨rfl,(by first | exact aa GG (aj _) | exact aa GG ah | exact GG)⟩)
      case rest =>
       obtain ⟨rfl,g4⟩:=hcut.out;have G4:=ab g4;clear hcut s0 s1 s2 s3 s4 s5 s6 s7 s8 s9 s10 s11 s12 s13 g4 GG;by_cases hz:den-1=0
       ·have hzd:(!(decide (den-1=0)))=false:=by simp [hz]
        rw [hzd];have HZ:=ab hz;clear hz hzd;go_wp2;go_roundw
        case rel =>
         refine ⟨k+1,by omega,by go_num,((HRI.out.keep0 G2.out).keep0 G4.out).congr (fun j _=>yT _ _ _ ?_),(I2.out.gr G2.out).gr G4.out⟩;rw [<- HDEN.out];exact HZ.out
        case measure=>simp [intOf];omega
       ·have hzd:(!(decide (den-1=0)))=true:=by simp [hz]
        rw [hzd];clear hz hzd;obtain ⟨s0,s1,s2,s3,s4,s5,s6,s7,s8,s9,s10,s11,s12,s13⟩:=CY.out _ G4.out;go_wp2_with fail;refine (mw _ _ _ g n c (cD (R i) k) den _ L _ ((HRI.out.keep0 G2.out).keep0 G4.out) (D3.out.keep0 G4.out) hg2 HG3.out (by omega) (fun j hj=>by rw [HDEN.out,<- je];exact HF.out i hlt (k+1) (by omega) j hj)).mono ?_;rintro e w5 ⟨rfl,f5,r5⟩;have F5:=ab f5;have R5:=ab (((I2.out.gr G2.out).gr G4.out).trans r5);clear f5 r5 s0 s1 s2 s3 s4 s5 s6 s7 s8 s9 s10 s11 s12 s13;go_wp2;go_roundw
        case rel=>exact ⟨k+1,by omega,by go_num,F5.out.congr (fun j _=>by rw [HDEN.out,<- je]),R5.out⟩
        case measure=>simp [intOf];omega
    ·obtain rfl:k=n:=by omega
     have O1:=ab (K1.out.keep I2.out.1 (.inr HNE.out));have O2:=ab (K2.out.keepB I2.out HNB.out);have HSZ:Hid (W.heap.size<=wr.heap.size):=Nat.le_trans G1.out.size I2.out.1.size;go_wp2_with (at_builtin;refine gA (lF k) 60 (.slice none 0 0) 24 _ rfl _ _ 186 rfl W.heap.size Tryz.underlying186 Tryz.infoRow rfl (fun x=>by simp [Value.cells]) (fun u x=>by simp [lF]) (.slice oa i oc) (fV bt ct i) rfl (O1.out.keep0 (ag (ae _ _) _)) wr.heap.size (g,c) rfl (by go_simp;rfl) rfl (by rw [cJ];omega) (by omega) (by simp;exact Nat.le_succ_of_le HSZ.out) ?_)
     intro ao cap5 w5 hown hgr hkk;rw [cJ] at hown ⊢;have RA:=ab (iH (O1.out.keep0 (ag (ae wr none) _)) hn0 (O2.out.keep0 (ag (ae wr none) _)) hg2 HG3.out (I1.out.keep0 (ag (ae wr none) _)) HGW.out HNB.out HNE.out hgr hkk hown);have HG:Hid (W.grownBy w5 none):=by
      refine aq (r:=none) (aq (r:=none) G1.out (aq (r:=some g) I2.out.1 (ag (ae wr none) _) (fun _ _ e=>e) (fun _ _ e=>by cases e)) (fun _ _ e=>e) (fun b hb e=>?_)) hgr (fun _ _ e=>e) (fun b hb e=>?_)
      ·have:=Option.some.inj e;have:=HGW.out;omega
      ·have:=(O1.out.1.fresh b e.symm).1;omega
     clear hown hgr hkk;go_wp2;go_roundw
     case rel=>exact ⟨i+1,iX bt i g,iX ct i c,by omega,by go_num,RA.out.1,RA.out.2,HG.out⟩
     case measure=>simp [intOf];omega
  ·obtain rfl:i=m:=by omega
   obtain ⟨b2,c2,e2,q1,q2,q3,q4⟩:=L1.out.mat hm0 hn0 L2.out;simp only [Value.slice.injEq,true_and] at e2;obtain ⟨rfl,rfl⟩:=e2;have Q3:=ab q3;have Q4:=ab q4;clear q3 q4;go_wp2;go_ret;exact ⟨b2,_,bt,ct,rfl,by have:=HWS.out;omega,q2,Q3.out,fun j hj=>by have:=L2.out.low j hj;have:=HWS.out;omega,Q4.out,aa GW.out L3.out⟩
theorem cK.keep0 {w w':World} {bo m:Nat} {o:Nat->Nat} (h:cK w bo m o) (g:w.grownBy w' none):cK w' bo m o:=h.keep g (by simp)
def CouR (W:World) (m done g1 g2:Nat) (v:Value) (wr:World):Prop :=
 ∃ (i:Nat) (xs ys:List Int),done<=i/\i<=m/\v=.int .i64 i/\xs.length=m/\ys.length=m/\d6 wr g1 xs/\d6 wr g2 ys/\W.grownBy wr none
def TwoE (w:World) (m:Nat) (e:Ending) (w':World):Prop :=
 ∃ g1 g2 xs ys,e=.returned (.tuple #[.slice (some ⟨g1,0,none⟩) m m,.slice (some ⟨g2,0,none⟩) m m])/\w.heap.size<=g1/\w.heap.size<=g2/\xs.length=m/\ys.length=m/\d6 w' g1 xs/\d6 w' g2 ys/\w.grownBy w' none
theorem oR (fb:Bool) (fo fo2:Option Addr) (fl fc fl2 fc2:Nat) (br bo m n cap co done:Nat) (bs cs:Nat->Nat) (R:Nat->Nat->Rat) (o:Nat->Nat) (L:Nat) (w:World)
  (hM:bX w br m n bs cs R L) (hO:cK w bo m o) (ho:∀ k,k<m->o k<n) (hd:done<m) (hm:m<=1000) (hn:n<=2000) (hc:m<=cap) (hc2:cap<=maxLen) (hco:m<=co) (hco2:co<=maxLen) :
  Calls Tryz.prog 197 #[(jI fb (.slice fo fl fc) (.slice fo2 fl2 fc2)),.slice (some ⟨br,0,none⟩) m cap,.slice (some ⟨bo,0,none⟩) m co,.int .i64 ((done:Nat):Int)] w fun e w'=>TwoE w m e w':=by
 unfold maxLen at hc2 hco2;have HM:=ab hM;have HO:=ab hO;have HOO:=ab ho;clear hM hO ho;obtain ⟨W,hW⟩:∃ W,W=w.alloc (Obj.cells #[.bool fb,.slice fo fl fc,.slice fo2 fl2 fc2,.func (.func 99) #[] #[],.func (.func 100) #[] #[],.func (.func 81) #[] #[],.func (.func 101) #[] #[],.func (.func 102) #[] #[],.func (.func 103) #[] #[],.func (.func 104) #[] #[],.func (.func 105) #[] #[]] 126):=⟨_,rfl⟩;have GW:Hid (w.grownBy W none):=by rw [hW];exact ag (ae _ _) _
 have HWS:Hid (W.heap.size=w.heap.size+1):=by show _=_;rw [hW];simp
 have BASE:Hid (∀ wx,W.grownBy wx none->wx.cell? ⟨w.heap.size,8,none⟩=some (.func (.func 103) #[] #[])):=by
  intro wx hg;rw [hW] at hg;exact hg.cell (by go_simp) (by simp)
 go_enter Tryz.func197,Tryz.ntmps197
 go_upto_region 1 with fail;rw [<- hW];clear hW;go_wp2_with fail;refine (rD W.heap.size m _ (by go_simp) (by omega) hm).mono ?_;rintro e w1 ⟨g1,xs1,rfl,q1,q2,q3,q4⟩;have G1:=ab (aa (ag (ae W none) _) q4);have A1:=ab q3;have HQ1:Hid (W.heap.size<g1):=by show _<_;simp at q1;omega
 clear q1 q3 q4;go_wp2_with fail;refine (rD w1.heap.size m _ (by go_simp) (by omega) hm).mono ?_;rintro e w2 ⟨g2,xs2,rfl,p1,p2,p3,p4⟩;have G2:=ab (aa G1.out (aa (ag (ae w1 none) _) p4));have A1':=ab (A1.out.keep0 (aa (ag (ae w1 none) _) p4));have A2:=ab p3;have HQ2:Hid (W.heap.size<g2/\g1≠g2):=by
  show _/\_
  have h1:=A1.out.lt;have h2:=G1.out.size;have:=HQ1.out;simp at p1;exact ⟨by omega,by omega⟩
 clear p1 p3 p4 A1 G1;go_wp2;go_loopw [10] (fun v wr=>Hid (CouR W m done g1 g2 v wr)) (fun v _=>m-(intOf v).toNat)
 case atStart=>exact ⟨done,xs1,xs2,by omega,by omega,rfl,q2,p2,A1'.out,A2.out,G2.out⟩
 case round =>
  obtain ⟨i,xs,ys,hi0,hi,rfl,hx,hy,l1,l2,l3⟩:=hrel.out;have L1:=ab l1;have L2:=ab l2;have L3:=ab l3;clear l1 l2 l3 hrel A1' A2 G2;by_cases hlt:i<m
  ·go_wp2;go_loopw [11] (fun v wx=>Hid (CouR W m done g1 g2 v wx)) (fun v _=>m-(intOf v).toNat)
   case atStart=>exact ⟨done,xs,ys,by omega,by omega,rfl,hx,hy,L1.out,L2.out,L3.out⟩
   case round =>
    obtain ⟨k,zs,ts,hk0,hk,rfl,hz,ht,l1,l2,l3⟩:=hrel.out;have K1:=ab l1;have K2:=ab l2;have K3:=ab l3;clear l1 l2 l3 hrel;by_cases hkm:k<m
    ·have MM:=ab ((HM.out.keep0 GW.out).keep0 K3.out);have OO:=ab ((HO.out.keep0 GW.out).keep0 K3.out);have ci:=(MM.out.cell i hlt).1;have ck:=OO.out.at k hkm;have hokn:=HOO.out k hkm;obtain ⟨hcc1,hcc2⟩:=MM.out.cap i hlt;unfold maxLen at hcc2;obtain ⟨xo,xl,xc,yo,yl,yc,c0,c1,c2,c3,_⟩:=(MM.out.row i hlt).at (o k) hokn;have X3:=ab c3;have CX:Hid (∀ wx,wr.grownBy wx none->wx.cell? ⟨w.heap.size,8,none⟩=some (.func (.func 103) #[] #[])/\wx.cell? ⟨br,i,none⟩=some (.slice (some ⟨bs i,0,none⟩) n (cs i))/\wx.cell? ⟨bo,k,none⟩=some (.int .i64 ((o k:Nat):Int))/\wx.cell? ⟨bs i,o k*3,none⟩=some (.bool (rB (R i (o k))))/\wx.cell? ⟨bs i,o k*3+1,none⟩=some (.slice xo xl xc)/\wx.cell? ⟨bs i,o k*3+2,none⟩=some (.slice yo yl yc)):=by
      intro wx hg;exact ⟨BASE.out wx (aa K3.out hg),hg.cell ci (by simp),hg.cell ck (by simp),hg.cell c0 (by simp),hg.cell c1 (by simp),hg.cell c2 (by simp)⟩
     clear c0 c1 c2 c3 ci ck;have GG:wr.grownBy wr none:=ae _ _;obtain ⟨s0,s1,s2,s3,s4,s5⟩:=CX.out wr GG;have hok1:(0:Int)<=((o k:Nat):Int):=by omega
     have hok2:((o k:Nat):Int)<(n:Int):=by omega
     have hk1:(0:Int)<=(k:Int):=by omega
     have hi1:(0:Int)<=(i:Int):=by omega
     have hk2:(k:Int)<(m:Int):=by omega
     have hi2:(i:Int)<(m:Int):=by omega
     go_wp2;go_cut [47] (fun s47 wx=>Hid (s47=.bool (!(decide (R i (o k)=0)))/\wr.grownBy wx none))
     case first =>
      go_region_held3 (fun w'=>w'.cell? ⟨w.heap.size,8,none⟩=some (.func (.func 103) #[] #[])/\w'.cell? ⟨br,i,none⟩=some (.slice (some ⟨bs i,0,none⟩) n (cs i))/\w'.cell? ⟨bo,k,none⟩=some (.int .i64 ((o k:Nat):Int))/\w'.cell? ⟨bs i,o k*3,none⟩=some (.bool (rB (R i (o k))))/\w'.cell? ⟨bs i,o k*3+1,none⟩=some (.slice xo xl xc)/\w'.cell? ⟨bs i,o k*3+2,none⟩=some (.slice yo yl yc)) (go_keep)
       (first | (go_at_call 103;refine (bq _ (R i (o k)) L _ (X3.out.keep0 (by first | exact aa GG (aj _) | exact aa GG ah | exact GG))).mono ?_;rintro e wa ⟨rfl,ga⟩;have GG:wr.grownBy wa none:=aa (by first | exact aa GG (aj _) | exact aa GG ah | exact GG) ga;obtain ⟨a0,a1,a2,a3,a4,a5⟩:=CX.out wa GG))
      all_goals (go_wp2_with fail;go_meet;exact ⟨rfl,(by first | exact aa GG (aj _) | exact aa GG ah | exact GG)⟩)
     case rest =>
      obtain ⟨rfl,g4⟩:=hcut.out;have G4:=ab g4;clear hcut g4 GG s0 s1 s2 s3 s4 s5 CX X3;by_cases hzz:R i (o k)=0
      ·have hzd:(!(decide (R i (o k)=0)))=false:=by simp [hzz]
       rw [hzd];clear hzz hzd;go_wp2;go_roundw
       case rel=>exact ⟨k+1,zs,ts,by omega,by omega,by go_num,hz,ht,K1.out.keep0 G4.out,K2.out.keep0 G4.out,aa K3.out G4.out⟩
       case measure=>simp [intOf];omega
      ·have hzd:(!(decide (R i (o k)=0)))=true:=by simp [hzz]
       rw [hzd];clear hzz hzd;have N1:=ab (K1.out.keep0 G4.out);have N2:=ab (K2.out.keep0 G4.out);have N3:=ab (aa K3.out G4.out);have e1:=N1.out.cell i (by omega);have e1f:=N1.out.free i;have e2:=N2.out.cell k (by omega);have e2f:=N2.out.free k;have hg12:g2≠g1:=fun e=>HQ2.out.2 e.symm
       go_wp2;go_roundw
       case rel =>
        refine ⟨k+1,zs.set i (wrap64 (zs[i]+1)),ts.set k (wrap64 (ts[k]+1)),by omega,by omega,by go_num,by simp [hz],by simp [ht],?_,?_,?_⟩
        ·exact (N1.out.set i _ _ rfl).keep (de _ _ _ _) (fun e=>HQ2.out.2 (Option.some.inj e))
        ·exact (N2.out.keep (de _ _ _ _) (fun e=>HQ2.out.2 (Option.some.inj e).symm)).set k _ _ rfl
        ·exact ai (ai N3.out _ _ (Nat.le_of_lt HQ1.out)) _ _ (Nat.le_of_lt HQ2.out.1)
       case measure=>simp [intOf];omega
    ·obtain rfl:k=m:=by omega
     go_wp2;go_roundw
     case rel=>exact ⟨i+1,zs,ts,by omega,by omega,by go_num,hz,ht,K1.out,K2.out,K3.out⟩
     case measure=>simp [intOf];omega
  ·obtain rfl:i=m:=by omega
   have HQ1':Hid (w.heap.size<=g1/\w.heap.size<=g2):=by show _/\_;have:=HQ1.out;have:=HQ2.out.1;have:=HWS.out;exact ⟨by omega,by omega⟩
   go_wp2;go_ret2
   exact ⟨g1,g2,xs,ys,rfl,HQ1'.out.1,HQ1'.out.2,hx,hy,L1.out,L2.out,aa GW.out L3.out⟩
def PW (w w':World) (b1 b2:Nat):Prop:=∃ w1,aX w w1 b1/\aX w1 w' b2
theorem PW.gr {W w w':World} {b1 b2:Nat} (h:PW w w' b1 b2) (g:W.grownBy w none) (h1:W.heap.size<=b1) (h2:W.heap.size<=b2):W.grownBy w' none:=by
 obtain ⟨w1,k1,k2⟩:=h;exact aq (r:=none) (aq (r:=none) g k1.1 (fun _ _ e=>e) (fun b hb e=>by have:=Option.some.inj e;omega)) k2.1 (fun _ _ e=>e) (fun b hb e=>by have:=Option.some.inj e;omega)
theorem PW.row {w w':World} {b1 b2 b n L:Nat} {R:Nat->Rat} (h:PW w w' b1 b2) (hr:aH w b n R L) (h1:b≠b1) (h2:b≠b2):aH w' b n R L:=by
 obtain ⟨w1,k1,k2⟩:=h;exact (hr.keep k1.1 k1.2 (fun e=>h1 (Option.some.inj e))).keep k2.1 k2.2 (fun e=>h2 (Option.some.inj e))
theorem kX {w:World} {b i j:Nat} {cur:Array Value} {e:TypeId} (hb:w.heap[b]? = some (.cells cur e (0,0))) (hj:j<cur.size) (v:Value):∃ u,(w.setCell ⟨b,i,none⟩ v).cell? ⟨b,j,none⟩=some u:=by
 have:=heap_setCell_same w b i cur e v hb;simp only [World.cell?,this];exact ⟨_,Array.getElem?_eq_getElem (by simpa using hj)⟩
theorem bX.set_some {w:World} {br m n L:Nat} {bs cs:Nat->Nat} {R:Nat->Nat->Rat} (h:bX w br m n bs cs R L) {i j:Nat} (hj:j<m) (v:Value):∃ u,(w.setCell ⟨br,i,none⟩ v).cell? ⟨br,j,none⟩=some u:=by
 obtain ⟨cur,e,hb,hc⟩:=h.top;exact kX hb (Array.getElem?_eq_some_iff.1 (hc j hj)).1 v
theorem cK.set_some {w:World} {bo m:Nat} {o:Nat->Nat} (h:cK w bo m o) {i j:Nat} (hj:j<m) (v:Value):∃ u,(w.setCell ⟨bo,i,none⟩ v).cell? ⟨bo,j,none⟩=some u:=by
 obtain ⟨cur,e,hb,hc⟩:=h;exact kX hb (Array.getElem?_eq_some_iff.1 (hc j hj)).1 v
def Chos (m done:Nat) (R:Nat->Nat->Rat) (o:Nat->Nat) (a b:Int) (f:Bool):Prop :=
 f=true->∃ x y:Nat,a=(x:Int)/\b=(y:Int)/\done<=x/\x<m/\done<=y/\y<m/\R x (o y)≠0
def PivR (W:World) (m done:Nat) (R:Nat->Nat->Rat) (o:Nat->Nat) (v11 v12 v13 v14 v15 v:Value) (wr:World):Prop :=
 ∃ (i:Nat) (a b s t:Int) (f:Bool),done<=i/\i<=m/\v=.int .i64 i/\v11=.int .i64 a/\v12=.int .i64 b/\v13=.int .i64 s/\v14=.int .i64 t/\v15=.bool f/\Chos m done R o a b f
  /\ (f=false->∀ x,done<=x->x<i->∀ y,done<=y->y<m->R x (o y)=0)/\W.grownBy wr none
def PinR (W:World) (m done i:Nat) (R:Nat->Nat->Rat) (o:Nat->Nat) (v11 v12 v13 v14 v15 v:Value) (wr:World):Prop :=
 ∃ (k:Nat) (a b s t:Int) (f:Bool),done<=k/\k<=m/\v=.int .i64 k/\v11=.int .i64 a/\v12=.int .i64 b/\v13=.int .i64 s/\v14=.int .i64 t/\v15=.bool f/\Chos m done R o a b f
  /\ (f=false->∀ x,done<=x->x<i->∀ y,done<=y->y<m->R x (o y)=0)/\(f=false->∀ y,done<=y->y<k->R i (o y)=0)/\W.grownBy wr none
def PivE (w:World) (br bo m n done:Nat) (bs cs:Nat->Nat) (R:Nat->Nat->Rat) (o:Nat->Nat) (L:Nat) (e:Ending) (w':World):Prop :=
 (∃ a b,done<=a/\a<m/\done<=b/\b<m/\R a (o b)≠0/\e=.returned (.bool true)/\bX w' br m n (fun i=>bs (bT done a i)) (fun i=>cs (bT done a i)) (fun i=>R (bT done a i)) L/\cK w' bo m (fun i=>o (bT done b i))/\PW w w' br bo)
 ∨ (e=.returned (.bool false)/\(∀ i,done<=i->i<m->∀ k,done<=k->k<m->R i (o k)=0)/\w.grownBy w' none)
theorem qz (fb:Bool) (fo fo2:Option Addr) (fl fc fl2 fc2:Nat) (br bo m n cap co done:Nat) (bs cs:Nat->Nat) (R:Nat->Nat->Rat) (o:Nat->Nat) (L:Nat) (w:World)
  (hM:bX w br m n bs cs R L) (hO:cK w bo m o) (ho:∀ k,k<m->o k<n) (hd:done<m) (hm:m<=1000) (hn:n<=2000) (hc:m<=cap) (hc2:cap<=maxLen) (hco:m<=co) (hco2:co<=maxLen) (hL:L<=100000000) :
  Calls Tryz.prog 174 #[(jI fb (.slice fo fl fc) (.slice fo2 fl2 fc2)),.slice (some ⟨br,0,none⟩) m cap,.slice (some ⟨bo,0,none⟩) m co,.int .i64 ((done:Nat):Int)] w fun e w'=>PivE w br bo m n done bs cs R o L e w':=by
 have HC2:=ab hc2;have HCO2:=ab hco2;unfold maxLen at hc2 hco2;have HM:=ab hM;have HO:=ab hO;have HOO:=ab ho;have hbrl:=hM.lt;have hbol:=hO.lt;have HN0:Hid (0<n):=by show _<_;have:=ho done hd;omega
 have HNE:=ab (hM.ne_int (by omega) HN0.out (hO.at 0 (by omega)));clear hM hO ho;obtain ⟨W,hW⟩:∃ W,W=w.alloc (Obj.cells #[.bool fb,.slice fo fl fc,.slice fo2 fl2 fc2,.func (.func 99) #[] #[],.func (.func 100) #[] #[],.func (.func 81) #[] #[],.func (.func 101) #[] #[],.func (.func 102) #[] #[],.func (.func 103) #[] #[],.func (.func 104) #[] #[],.func (.func 105) #[] #[]] 126):=⟨_,rfl⟩;have GW:Hid (w.grownBy W none):=by rw [hW];exact ag (ae _ _) _
 have HWS:Hid (W.heap.size=w.heap.size+1):=by show _=_;rw [hW];simp
 have BASE:Hid (∀ wx,W.grownBy wx none->wx.cell? ⟨w.heap.size,0,none⟩=some (.bool fb)/\wx.cell? ⟨w.heap.size,1,none⟩=some (.slice fo fl fc)/\wx.cell? ⟨w.heap.size,2,none⟩=some (.slice fo2 fl2 fc2)/\wx.cell? ⟨w.heap.size,3,none⟩=some (.func (.func 99) #[] #[])/\wx.cell? ⟨w.heap.size,4,none⟩=some (.func (.func 100) #[] #[])/\wx.cell? ⟨w.heap.size,5,none⟩=some (.func (.func 81) #[] #[])/\wx.cell? ⟨w.heap.size,6,none⟩=some (.func (.func 101) #[] #[])/\wx.cell? ⟨w.heap.size,7,none⟩=some (.func (.func 102) #[] #[])/\wx.cell? ⟨w.heap.size,8,none⟩=some (.func (.func 103) #[] #[])/\wx.cell? ⟨w.heap.size,9,none⟩=some (.func (.func 104) #[] #[])/\wx.cell? ⟨w.heap.size,10,none⟩=some (.func (.func 105) #[] #[])):=by
  intro wx hg;rw [hW] at hg;exact ⟨hg.cell (by go_simp) (by simp),hg.cell (by go_simp) (by simp),hg.cell (by go_simp) (by simp),hg.cell (by go_simp) (by simp),hg.cell (by go_simp) (by simp),hg.cell (by go_simp) (by simp),hg.cell (by go_simp) (by simp),hg.cell (by go_simp) (by simp),hg.cell (by go_simp) (by simp),hg.cell (by go_simp) (by simp),hg.cell (by go_simp) (by simp)⟩
 obtain ⟨s0,s1,s2,s3,s4,s5,s6,s7,s8,s9,s10⟩:=BASE.out W (ae _ _);go_enter Tryz.func174,Tryz.ntmps174
 go_upto_region 1 with fail;rw [<- hW];clear hW;go_wp2_with fail;refine (oR fb fo fo2 fl fc fl2 fc2 br bo m n cap co done bs cs R o L W (HM.out.keep0 GW.out) (HO.out.keep0 GW.out) HOO.out hd hm hn hc HC2.out hco HCO2.out).mono ?_;rintro e W1 ⟨g1,g2,xs,ys,rfl,q1,q2,q3,q4,q5,q6,q7⟩;have A1:=ab q5;have A2:=ab q6;have G1:=ab q7;have GA:=ab (aa GW.out q7);clear q1 q2 q5 q6 q7 s0 s1 s2 s3 s4 s5 s6 s7 s8 s9 s10;have M1:=ab (HM.out.keep0 GA.out);have O1:=ab (HO.out.keep0 GA.out);go_wp2;go_loopw [11,12,13,14,15,16] (fun v11 v12 v13 v14 v15 v wr=>Hid (PivR W1 m done R o v11 v12 v13 v14 v15 v wr)) (fun _ _ _ _ _ v _=>m-(intOf v).toNat)
 case atStart=>exact ⟨done,0,0,0,0,false,by omega,by omega,rfl,rfl,rfl,rfl,rfl,rfl,(fun e=>by cases e),(fun _ x h1 h2=>by omega),ae _ _⟩
 case round =>
  obtain ⟨i,a,b,s,t,f,hi0,hi,rfl,rfl,rfl,rfl,rfl,rfl,l1,l2,l3⟩:=hrel.out;have L1:=ab l1;have L2:=ab l2;have L3:=ab l3;clear l1 l2 l3 hrel;by_cases hlt:i<m
  ·go_wp2;go_loopw [11,12,13,14,15,17] (fun v11 v12 v13 v14 v15 v wx=>Hid (PinR W1 m done i R o v11 v12 v13 v14 v15 v wx)) (fun _ _ _ _ _ v _=>m-(intOf v).toNat)
   case atStart=>exact ⟨done,a,b,s,t,f,by omega,by omega,rfl,rfl,rfl,rfl,rfl,rfl,L1.out,L2.out,(fun _ y h1 h2=>by omega),L3.out⟩
   case round =>
    clear L1 L2 L3;obtain ⟨k,a,b,s,t,f,hk0,hk,rfl,rfl,rfl,rfl,rfl,rfl,l1,l2,l3,l4⟩:=hrel.out;have L1:=ab l1;have L2:=ab l2;have L3:=ab l3;have L4:=ab l4;clear l1 l2 l3 l4 hrel;by_cases hkm:k<m
    ·have MM:=ab (M1.out.keep0 L4.out);have OO:=ab (O1.out.keep0 L4.out);have ci:=(MM.out.cell i hlt).1;have ck:=OO.out.at k hkm;have hokn:=HOO.out k hkm;obtain ⟨hcc1,hcc2⟩:=MM.out.cap i hlt;unfold maxLen at hcc2;obtain ⟨q,hq⟩:∃ q,q=R i (o k):=⟨_,rfl⟩;have HQ:=ab hq;obtain ⟨xo,xl,xc,yo,yl,yc,c0,c1,c2,c3,_⟩:=(MM.out.row i hlt).at (o k) hokn;rw [<- hq] at c0 c3;have X3:=ab c3;have HGX:Hid (wr.cell? ⟨g1,i,none⟩=some (.int .i64 (xs[i]'(by omega)))/\wr.cell? ⟨g2,k,none⟩=some (.int .i64 (ys[k]'(by omega)))):=⟨(A1.out.keep0 L4.out).cell i (by omega),(A2.out.keep0 L4.out).cell k (by omega)⟩;obtain ⟨c1i,hc1i⟩:∃ x,x=xs[i]'(by omega):=⟨_,rfl⟩;obtain ⟨c2k,hc2k⟩:∃ x,x=ys[k]'(by omega):=⟨_,rfl⟩;rw [<- hc1i,<- hc2k] at HGX;have CX:Hid (∀ wx,wr.grownBy wx none->wx.cell? ⟨br,i,none⟩=some (.slice (some ⟨bs i,0,none⟩) n (cs i))/\wx.cell? ⟨bo,k,none⟩=some (.int .i64 ((o k:Nat):Int))/\wx.cell? ⟨bs i,o k*3,none⟩=some (.bool (rB q))/\wx.cell? ⟨bs i,o k*3+1,none⟩=some (.slice xo xl xc)/\wx.cell? ⟨bs i,o k*3+2,none⟩=some (.slice yo yl yc)):=by
      intro wx hg;exact ⟨hg.cell ci (by simp),hg.cell ck (by simp),hg.cell c0 (by simp),hg.cell c1 (by simp),hg.cell c2 (by simp)⟩
     clear c0 c1 c2 c3 ci ck hq hc1i hc2k;have GG:wr.grownBy wr none:=ae _ _;obtain ⟨s0,s1,s2,s3,s4⟩:=CX.out wr GG;have hok1:(0:Int)<=((o k:Nat):Int):=by omega
     have hok2:((o k:Nat):Int)<(n:Int):=by omega
     have hk1:(0:Int)<=(k:Int):=by omega
     have hi1:(0:Int)<=(i:Int):=by omega
     have hk2:(k:Int)<(m:Int):=by omega
     have hi2:(i:Int)<(m:Int):=by omega
     have hsz1:br<wr.heap.size:=MM.out.lt;have hsz2:bo<wr.heap.size:=OO.out.lt;have hsz3:bs i<wr.heap.size:=(MM.out.row i hlt).lt;have nz1:wr.heap.size≠br:=by omega
     have nz2:wr.heap.size≠bo:=by omega
     have nz3:wr.heap.size≠bs i:=by omega
     go_wp2;go_cut [18] (fun s18 wx=>Hid (∃ gs,s18=.pointer (some ⟨gs,0,none⟩)/\wr.heap.size<=gs/\aH wx gs 1 (fun _=>q) L/\wr.grownBy wx none))
     case first =>
      go_region_held3 (fun w'=>w'.cell? ⟨br,i,none⟩=some (.slice (some ⟨bs i,0,none⟩) n (cs i))/\w'.cell? ⟨bo,k,none⟩=some (.int .i64 ((o k:Nat):Int))/\w'.cell? ⟨bs i,o k*3,none⟩=some (.bool (rB q))/\w'.cell? ⟨bs i,o k*3+1,none⟩=some (.slice xo xl xc)/\w'.cell? ⟨bs i,o k*3+2,none⟩=some (.slice yo yl yc)) (go_keep) (fail)
      all_goals (go_wp2_with fail;go_meet;exact ⟨_,rfl,Nat.le_refl _,(my X3.out).keep0 ah,ar (ag (ae _ _) _) 1⟩)
     case rest =>
      obtain ⟨gs,rfl,hgs,f2,g2_⟩:=hcut.out;have F2:=ab f2;have G2:=ab g2_;obtain ⟨so,sl,sc,to_,tl,tc,d0,d1,d2,d3,_⟩:=f2.var;have D3:=ab d3;clear hcut s0 s1 s2 s3 s4 f2 g2_ GG CX X3 nz1 nz2 nz3 hsz1 hsz2 hsz3;have CY:Hid (∀ wx,wc.grownBy wx none->wx.cell? ⟨w.heap.size,8,none⟩=some (.func (.func 103) #[] #[])/\wx.cell? ⟨w.heap.size,10,none⟩=some (.func (.func 105) #[] #[])/\wx.cell? ⟨gs,0,none⟩=some (.bool (rB q))/\wx.cell? ⟨gs,1,none⟩=some (.slice so sl sc)/\wx.cell? ⟨gs,2,none⟩=some (.slice to_ tl tc)/\wx.cell? ⟨g1,i,none⟩=some (.int .i64 c1i)/\wx.cell? ⟨g2,k,none⟩=some (.int .i64 c2k)):=by
       intro wx hg;obtain ⟨b0,b1,b2,b3,b4,b5,b6,b7,b8,b9,b10⟩:=BASE.out wx (aa G1.out (aa L4.out (aa G2.out hg)));exact ⟨b8,b10,hg.cell d0 (by simp),hg.cell d1 (by simp),hg.cell d2 (by simp),hg.cell (G2.out.cell HGX.out.1 (by simp)) (by simp),hg.cell (G2.out.cell HGX.out.2 (by simp)) (by simp)⟩
      clear d0 d1 d2 d3;obtain ⟨s0,s1,s2,s3,s4,s5,s6⟩:=CY.out wc (ae _ _);go_wp2_with fail;refine (bq _ q L _ D3.out).mono ?_;rintro e w3 ⟨rfl,g3⟩;have G3:=ab g3;clear g3 s0 s1 s2 s3 s4 s5 s6;by_cases hz:q=0
      ·have hzd:decide (q=0)=true:=decide_eq_true hz;rw [hzd];have HZ:=ab hz;clear hz hzd;go_wp2;go_roundw
       case rel =>
        refine ⟨k+1,a,b,s,t,f,by omega,by omega,by go_num,rfl,rfl,rfl,rfl,rfl,L1.out,L2.out,fun e y h1 h2=>?_,aa L4.out (aa G2.out G3.out)⟩;by_cases e2:y=k
        ·rw [e2,<- HQ.out];exact HZ.out
        ·exact L3.out e y h1 (by omega)
       case measure=>simp [intOf];omega
      ·have hzd:decide (q=0)=false:=decide_eq_false hz;rw [hzd];have HZ:=ab hz;clear hz hzd;have GG:w3.grownBy w3 none:=ae _ _;obtain ⟨s0,s1,s2,s3,s4,s5,s6⟩:=CY.out w3 G3.out;go_wp2_with fail;go_cut [19,20] (fun s19 s20 wx=>Hid (∃ s' t':Int,s19=.int .i64 s'/\s20=.int .i64 t'/\w3.grownBy wx none))
       case first =>
        go_region_held3 (fun w'=>w'.cell? ⟨w.heap.size,8,none⟩=some (.func (.func 103) #[] #[])/\w'.cell? ⟨w.heap.size,10,none⟩=some (.func (.func 105) #[] #[])/\w'.cell? ⟨gs,0,none⟩=some (.bool (rB q))/\w'.cell? ⟨gs,1,none⟩=some (.slice so sl sc)/\w'.cell? ⟨gs,2,none⟩=some (.slice to_ tl tc)/\w'.cell? ⟨g1,i,none⟩=some (.int .i64 c1i)/\w'.cell? ⟨g2,k,none⟩=some (.int .i64 c2k)) (go_keep)
         (first | (go_at_call 105;refine (Bw _ _ _ _ L _ (D3.out.keep0 (aa G3.out (by first | exact aa GG (aj _) | exact aa GG ah | exact GG))) (by omega)).mono ?_;rintro e wa ⟨ka,rfl,hka,ga⟩;have GG:w3.grownBy wa none:=aa (by first | exact aa GG (aj _) | exact aa GG ah | exact GG) ga;obtain ⟨a0,a1,a2,a3,a4,a5,a6⟩:=CY.out wa (aa G3.out GG)))
        all_goals (go_wp2_with fail;go_meet;exact ⟨_,_,rfl,rfl,(by first | exact aa GG (aj _) | exact aa GG ah | exact GG)⟩)
       case rest =>
        obtain ⟨s',t',rfl,rfl,g5⟩:=hcut.out;have G5:=ab (aa L4.out (aa G2.out (aa G3.out g5)));clear hcut s0 s1 s2 s3 s4 s5 s6 GG g5;have hyes:Hid (∃ x y:Nat,(i:Int)=(x:Int)/\(k:Int)=(y:Int)/\done<=x/\x<m/\done<=y/\y<m/\R x (o y)≠0):=⟨i,k,rfl,rfl,hi0,hlt,hk0,hkm,by rw [<- HQ.out];exact HZ.out⟩;go_upto_region 13 with fail;go_cut [86] (fun s86 wx=>Hid (∃ c:Bool,s86=.bool c/\(f=false->c=true)/\W1.grownBy wx none))
        case first =>
         cases f with
         | false =>
          go_wp2
          all_goals (go_meet;exact ⟨true,rfl,fun _=>rfl,G5.out⟩)
         | true =>
          by_cases h1:s'<s
          ·have h1d:decide (s'<s)=true:=decide_eq_true h1;go_wp2
           all_goals (go_meet;exact ⟨true,by first | rfl | simp,(fun e=>by cases e),G5.out⟩)
          ·have h1d:decide (s'<s)=false:=decide_eq_false h1;by_cases h2:s'=s
           ·have h2d:(s'==s)=true:=beq_iff_eq.2 h2;subst h2;go_wp2
            all_goals (go_meet;exact ⟨_,rfl,(fun e=>by cases e),G5.out⟩)
           ·have h2d:(s'==s)=false:=beq_eq_false_iff_ne.2 h2;go_wp2
            all_goals (go_meet;exact ⟨_,rfl,(fun e=>by cases e),G5.out⟩)
        case rest =>
         obtain ⟨c,rfl,hcf,g6⟩:=hcut.out;have G6:=ab g6;have HCF:=ab hcf;clear hcut g6 hcf;cases c with
         | true =>
          go_wp2;go_roundw
          case rel=>exact ⟨k+1,(i:Int),(k:Int),s',t',true,by omega,by omega,by go_num,rfl,rfl,rfl,rfl,rfl,fun _=>hyes.out,(fun e=>by cases e),(fun e=>by cases e),G6.out⟩
          case measure=>simp [intOf];omega
         | false =>
          have hft:f=true:=by
           cases hf:f with
           | true=>rfl
           | false=>exact absurd (HCF.out hf) (by decide)
          have HFT:=ab hft;clear hft;go_wp2;go_roundw
          case rel=>exact ⟨k+1,a,b,s,t,f,by omega,by omega,by go_num,rfl,rfl,rfl,rfl,rfl,L1.out,L2.out,(fun e=>by rw [HFT.out] at e;cases e),G6.out⟩
          case measure=>simp [intOf];omega
    ·obtain rfl:k=m:=by omega
     go_wp2;go_roundw
     case rel =>
      refine ⟨i+1,a,b,s,t,f,by omega,by omega,by go_num,rfl,rfl,rfl,rfl,rfl,L1.out,fun e x h1 h2 y h3 h4=>?_,L4.out⟩;by_cases e2:x=i
      ·rw [e2];exact L3.out e y h3 h4
      ·exact L2.out e x h1 (by omega) y h3 h4
     case measure=>simp [intOf];omega
  ·obtain rfl:i=m:=by omega
   cases f with
   | false =>
    go_wp2;go_ret;exact .inr ⟨rfl,fun x h1 h2 y h3 h4=>L2.out (by first | rfl | trivial) x h1 h2 y h3 h4,aa GA.out L3.out⟩
   | true =>
    obtain ⟨x,y,rfl,rfl,hx1,hx2,hy1,hy2,hne⟩:=L1.out (by first | rfl | trivial);have HXY:=ab hne;have MM:=ab (M1.out.keep0 L3.out);have OO:=ab (O1.out.keep0 L3.out);have m1:=(MM.out.cell x hx2).1;have m2:=(MM.out.cell done hd).1;have mf1:=(MM.out.cell done hd).2 done;have mf2:=(MM.out.cell done hd).2 x;have hx3:(0:Int)<=(x:Int):=by omega
    have hx4:(x:Int)<(i:Int):=by omega
    have hy3:(0:Int)<=(y:Int):=by omega
    have hy4:(y:Int)<(i:Int):=by omega
    have hd3:(0:Int)<=(done:Int):=by omega
    have hd4:(done:Int)<(i:Int):=by omega
    obtain ⟨u1,hu1⟩:=MM.out.set_some (i:=done) hx2 (.slice (some ⟨bs x,0,none⟩) n (cs x));clear hne L1 L2;go_wp2;go_region
    obtain ⟨w5,hw5⟩:∃ w5,w5=(wr.setCell ⟨br,done,none⟩ (.slice (some ⟨bs x,0,none⟩) n (cs x))).setCell ⟨br,x,none⟩ (.slice (some ⟨bs done,0,none⟩) n (cs done)):=⟨_,rfl⟩;obtain ⟨t1,t2⟩:=MM.out.swap hd hx2;rw [<- hw5] at t1 t2;have M5:=ab t1;have R5:=ab t2;have O5:=ab (OO.out.keep t2.1 (fun e=>HNE.out.1 (Option.some.inj e).symm));rw [<- hw5];clear hw5 t1 t2 m1 m2 mf1 mf2 hu1 u1;have o1:=O5.out.at y hy2;have o2:=O5.out.at done hd;have of1:=O5.out.froz done;have of2:=O5.out.froz y;obtain ⟨u2,hu2⟩:=O5.out.set_some (i:=done) hy2 (.int .i64 ((o y:Nat):Int));go_wp2;go_region
    obtain ⟨w6,hw6⟩:∃ w6,w6=(w5.setCell ⟨bo,done,none⟩ (.int .i64 ((o y:Nat):Int))).setCell ⟨bo,y,none⟩ (.int .i64 ((o done:Nat):Int)):=⟨_,rfl⟩;obtain ⟨t1,t2⟩:=O5.out.swap hd hy2;rw [<- hw6] at t1 t2;have O6:=ab t1;have M6:=ab (M5.out.keepR t2 HNE.out.1 (fun j hj=>HNE.out.2 _ (fh hd hx2 hj)));have R6:=ab t2;rw [<- hw6];clear hw6 t1 t2 o1 o2 of1 of2 hu2 u2;go_wp2;go_ret;refine .inl ⟨x,y,hx1,hx2,hy1,hy2,HXY.out,rfl,?_,?_,w5,(aX.of_gr (aa GA.out L3.out)).trans R5.out,?_⟩
    ·exact M6.out.keep0 (aa ah ah)
    ·exact O6.out.keep0 (aa ah ah)
    ·exact R6.out.gr (aa ah ah)
end Go.Proofs.YthblidglcppakaaGreatDoor
